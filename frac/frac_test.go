package frac_test

import (
	"math"
	"math/big"
	"math/rand"
	"testing"

	"oxbow/api"
	"oxbow/frac"
)

const most, least = math.MaxInt, math.MinInt

// edges is the ints at which sums and products turn.
var edges = []int{0, 1, -1, 2, -2, 3, 5, 6, 7, -7, 100, 1 << 31, -1 << 31, 1<<31 - 1, 1 << 32, 1<<32 + 1, 3037000499, 3037000500, -3037000500, 1 << 61, 1 << 62, -1 << 62, 1<<62 - 1, most, most - 1, most - 2, least, least + 1, 2 * 3 * 5 * 7 * 11 * 13}

func big2(n int) *big.Int { return big.NewInt(int64(n)) }

func checkInts(t *testing.T, a, b int) {
	t.Helper()
	sum := new(big.Int).Add(big2(a), big2(b))
	got, ok := frac.Add(a, b)
	if ok != sum.IsInt64() || ok && int64(got) != sum.Int64() || !ok && got != 0 {
		t.Errorf("Add(%d, %d) = %d, %v", a, b, got, ok)
	}
	prod := new(big.Int).Mul(big2(a), big2(b))
	got, ok = frac.Mul(a, b)
	if ok != prod.IsInt64() || ok && int64(got) != prod.Int64() || !ok && got != 0 {
		t.Errorf("Mul(%d, %d) = %d, %v", a, b, got, ok)
	}
	want := 0
	if a >= 0 && b >= 0 {
		want = int(new(big.Int).GCD(nil, nil, big2(a), big2(b)).Int64())
	}
	if got := frac.Gcd(a, b); got != want {
		t.Errorf("Gcd(%d, %d) = %d, want %d", a, b, got, want)
	}
}

// P1.1
func TestIntegers(t *testing.T) {
	for _, a := range edges {
		for _, b := range edges {
			checkInts(t, a, b)
		}
	}
	r := rand.New(rand.NewSource(1))
	for range 20000 {
		checkInts(t, int(r.Uint64())>>r.Intn(64), int(r.Uint64())>>r.Intn(64))
	}
	if n, ok := frac.Mul(least, 1); n != least || !ok {
		t.Error("Mul of the least int and 1", n, ok)
	}
	if n, ok := frac.Mul(-1, least); n != 0 || ok {
		t.Error("Mul of -1 and the least int", n, ok)
	}
	if frac.Gcd(0, 0) != 0 || frac.Gcd(0, 9) != 9 || frac.Gcd(9, 0) != 9 || frac.Gcd(-4, 6) != 0 || frac.Gcd(4, -6) != 0 || frac.Gcd(0, least) != 0 {
		t.Error("Gcd at its edges")
	}
}

func valid(f api.Frac) bool { return f.N >= 0 && f.D >= 1 && frac.Gcd(f.N, f.D) == 1 }

// P1.2
func TestOf(t *testing.T) {
	for _, n := range edges {
		for _, d := range edges {
			f, ok := frac.Of(n, d)
			if n < 0 || d < 1 {
				if ok || f != (api.Frac{}) {
					t.Errorf("Of(%d, %d) = %v, %v", n, d, f, ok)
				}
				continue
			}
			if !ok || !valid(f) || big.NewRat(int64(n), int64(d)).Cmp(rat(f)) != 0 {
				t.Errorf("Of(%d, %d) = %v, %v", n, d, f, ok)
			}
		}
	}
}

func rat(f api.Frac) *big.Rat { return big.NewRat(int64(f.N), int64(f.D)) }

func of(n, d int) api.Frac { f, _ := frac.Of(n, d); return f }

// toFrac is what the exact x is as a fraction; false: it isn't representable.
func toFrac(x *big.Rat) (api.Frac, bool) {
	if !x.Num().IsInt64() || !x.Denom().IsInt64() {
		return api.Frac{}, false
	}
	return api.Frac{N: int(x.Num().Int64()), D: int(x.Denom().Int64())}, true
}

func checkFracs(t *testing.T, a, b api.Frac) {
	t.Helper()
	if got, want := frac.Cmp(a, b), rat(a).Cmp(rat(b)); got != want {
		t.Errorf("Cmp(%v, %v) = %d, want %d", a, b, got, want)
	}
	want, can := toFrac(new(big.Rat).Mul(rat(a), rat(b)))
	if got, ok := frac.Times(a, b); got != want || ok != can {
		t.Errorf("Times(%v, %v) = %v, %v, want %v, %v", a, b, got, ok, want, can)
	}
	want, can = toFrac(new(big.Rat).Add(rat(a), rat(b)))
	if got, ok := frac.Plus(a, b); got != want || ok != can {
		t.Errorf("Plus(%v, %v) = %v, %v, want %v, %v", a, b, got, ok, want, can)
	}
	up, left := new(big.Int).DivMod(big2(a.N), big2(a.D), new(big.Int))
	if left.Sign() > 0 {
		up.Add(up, big2(1))
	}
	if got := frac.Ceil(a); int64(got) != up.Int64() {
		t.Errorf("Ceil(%v) = %d, want %v", a, got, up)
	}
	if (a == b) != (frac.Cmp(a, b) == 0) {
		t.Errorf("%v and %v: equal as structs, but not in value, or the other way", a, b)
	}
}

func fracs() []api.Frac {
	var l []api.Frac
	for _, n := range edges {
		for _, d := range edges {
			if f, ok := frac.Of(n, d); ok {
				l = append(l, f)
			}
		}
	}
	return l
}

// P1.3, P1.4
func TestFractions(t *testing.T) {
	l := fracs()
	for _, a := range l {
		for _, b := range l {
			checkFracs(t, a, b)
		}
	}
	r := rand.New(rand.NewSource(2))
	any := func() api.Frac { return of(int(r.Uint64()>>(1+r.Intn(63))), 1+int(r.Uint64()>>(2+r.Intn(62)))) }
	for range 20000 {
		a, b := any(), any()
		checkFracs(t, a, b)
		if f, ok := frac.Of(b.D, a.D); ok { // much of it can be divided out
			checkFracs(t, a, f)
		}
	}
	for _, x := range []struct {
		a, b api.Frac
		cmp  int
	}{{of(most, most-1), of(most-1, most-2), -1}, {of(1, most), of(1, most-1), -1}, {of(most, 1), of(most-1, 1), 1}, {of(0, 1), of(1, most), -1}} {
		if frac.Cmp(x.a, x.b) != x.cmp || frac.Cmp(x.b, x.a) != -x.cmp {
			t.Error("Cmp", x)
		}
	}
}

// P1.5
func TestOrderAndGrouping(t *testing.T) {
	r := rand.New(rand.NewSource(3))
	any := func() api.Frac { return of(r.Intn(1<<r.Intn(40)), 1+r.Intn(1<<r.Intn(24))) }
	for range 5000 {
		a, b, c := any(), any(), any()
		for _, f := range []func(a, b api.Frac) (api.Frac, bool){frac.Plus, frac.Times} {
			x, ok := f(a, b)
			y, fine := f(b, a)
			if x != y || ok != fine {
				t.Fatal("the order matters", a, b, x, y)
			}
			z, can := f(b, c)
			if !ok || !can {
				continue
			}
			x, ok = f(x, c)
			z, can = f(a, z)
			if ok && can && x != z {
				t.Fatal("the grouping matters", a, b, c, x, z)
			}
		}
	}
}

func TestExamples(t *testing.T) {
	if n, ok := frac.Add(most, 1); ok || n != 0 {
		t.Error("Add", n, ok)
	}
	if n, ok := frac.Mul(least, -1); ok || n != 0 {
		t.Error("Mul", n, ok)
	}
	if n, ok := frac.Mul(1<<62, -2); !ok || n != least {
		t.Error("Mul", n, ok)
	}
	if of(6, 4) != (api.Frac{N: 3, D: 2}) || of(0, 9) != (api.Frac{N: 0, D: 1}) {
		t.Error("Of", of(6, 4), of(0, 9))
	}
	if f, ok := frac.Of(5, 0); ok || f != (api.Frac{}) {
		t.Error("Of 5, 0", f, ok)
	}
	if f, ok := frac.Plus(of(1, 6), of(1, 3)); !ok || f != of(1, 2) {
		t.Error("Plus", f, ok)
	}
	if f, ok := frac.Times(of(2, 3), of(3, 4)); !ok || f != of(1, 2) {
		t.Error("Times", f, ok)
	}
	if frac.Ceil(of(7, 2)) != 4 || frac.Ceil(of(4, 1)) != 4 || frac.Cmp(of(1, 3), of(33, 100)) != 1 {
		t.Error("Ceil, Cmp")
	}
}
