package calc_test

import (
	"math"
	"math/big"
	"math/rand"
	"slices"
	"testing"

	"oxbow/api"
	"oxbow/calc"
)

var numbers = []int{math.MinInt, math.MinInt + 1, -1000, -17, -7, -2, -1, 0, 1, 2, 3, 4, 5, 7, 16, 17, 1000, math.MaxInt - 1, math.MaxInt}

func fn(op, a, b int) api.Fn { return api.Fn{Op: op, A: a, B: b} }

// fine is the chapter's P10.1, once more.
func fine(kind int, f api.Fn) bool {
	from := func(n, least, most int) bool { return n >= least && n <= most }
	switch kind {
	case 2:
		return from(f.Op, 1, 7) && f.B == 0 && (f.Op != 5 || f.A >= 1) && (f.Op != 4 || f.A == 0)
	case 3:
		return f.Op == 1 && f.B == 0 || from(f.Op, 2, 3) && f.A >= 1 && from(f.B, 0, f.A-1)
	case 4:
		return f.Op == 0 && from(f.A, 0, 4)
	case 5:
		return from(f.Op, 1, 4) && f.A == 0 && f.B == 0
	case 6:
		return from(f.Op, 1, 4) && from(f.A, 1, 16) && f.B == 0
	}
	return f.Op == 0 && f.A == 0 && f.B == 0
}

// P10.1
func TestCheck(t *testing.T) {
	for _, kind := range []int{math.MinInt, -1, 0, 1, 2, 3, 4, 5, 6, 7, 8, 9, 10, math.MaxInt} {
		for op := -1; op <= 9; op++ {
			for _, a := range numbers {
				for _, b := range numbers {
					want := api.OK
					if kind < 1 || kind > 8 {
						want = api.ErrKind
					} else if !fine(kind, fn(op, a, b)) {
						want = api.ErrArg
					}
					if got := calc.Check(kind, fn(op, a, b)); got != want {
						t.Fatalf("Check(%d, %v) = %d, want %d", kind, fn(op, a, b), got, want)
					}
				}
			}
		}
	}
}

// rest is v modulo a, by way of great numbers.
func rest(v, a int) int {
	return int(new(big.Int).Mod(big.NewInt(int64(v)), big.NewInt(int64(a))).Int64())
}

// P10.2
func TestMap(t *testing.T) {
	for _, v := range numbers {
		for _, a := range numbers {
			least, most := a, a
			if v < a {
				least = v
			} else {
				most = v
			}
			for op, want := range map[int]int{api.FAdd: v + a, api.FMul: v * a, api.FXor: v ^ a, api.FNeg: 0 - v, api.FMin: least, api.FMax: most} {
				if got := calc.Map(fn(op, a, 0), v); got != want {
					t.Errorf("Map(%v, %d) = %d, want %d", fn(op, a, 0), v, got, want)
				}
			}
			if a < 1 {
				continue
			}
			if got := calc.Map(fn(api.FMod, a, 0), v); got != rest(v, a) {
				t.Errorf("FMod %d of %d: %d", a, v, got)
			}
		}
	}
	if calc.Map(fn(api.FAdd, 1, 0), math.MaxInt) != math.MinInt || calc.Map(fn(api.FNeg, 0, 0), math.MinInt) != math.MinInt {
		t.Error("no wrap-round")
	}
}

// P10.3
func TestKeep(t *testing.T) {
	for _, v := range numbers {
		for _, k := range numbers {
			r := api.Rec{Key: k, Val: v}
			for _, a := range numbers {
				if got := calc.Keep(fn(api.FBelow, a, 0), r); got != (v < a) {
					t.Errorf("FBelow %d of %v: %v", a, r, got)
				}
				if a < 1 {
					continue
				}
				for _, b := range []int{0, a / 2, a - 1, rest(v, a), rest(k, a)} {
					if got := calc.Keep(fn(api.FRest, a, b), r); got != (rest(v, a) == b) {
						t.Errorf("FRest %d, %d of %v: %v", a, b, r, got)
					}
					if got := calc.Keep(fn(api.FKey, a, b), r); got != (rest(k, a) == b) {
						t.Errorf("FKey %d, %d of %v: %v", a, b, r, got)
					}
				}
			}
		}
	}
}

// P10.4
func TestFan(t *testing.T) {
	for _, v := range numbers {
		for _, b := range numbers {
			for a, want := range [][]int{nil, {v}, {v, v + b}, {v, v + b, v + 2*b}, {v, v + b, v + 2*b, v + 3*b}} {
				if got := calc.Fan(fn(0, a, b), v); !slices.Equal(got, want) {
					t.Errorf("Fan(%v, %d) = %v", fn(0, a, b), v, got)
				}
			}
		}
	}
}

// P10.5
func TestFold(t *testing.T) {
	for _, f := range []api.Fn{{}, fn(0, 3, 0)} {
		for _, v := range numbers {
			for _, acc := range numbers {
				for _, n := range []int{0, 1, 2, 15, 1000, -1, math.MaxInt} {
					c := api.Cell{Acc: acc, N: n}
					for op, want := range map[int]int{api.FSum: acc + v, api.FLeast: min(acc, v), api.FMost: max(acc, v), api.FCount: n + 1} {
						if n == 0 && op != api.FCount {
							want = v
						}
						f.Op = op
						if got := calc.Fold(f, c, v); got != (api.Cell{Acc: want, N: n + 1}) {
							t.Errorf("Fold(%v, %v, %d) = %v", f, c, v, got)
						}
					}
				}
			}
		}
	}
}

// P10.6
func TestWindow(t *testing.T) {
	for a := 1; a <= 16; a++ {
		for op := api.FSum; op <= api.FCount; op++ {
			for n := range 20 {
				c, f := api.Cell{Acc: -5, N: n}, fn(op, a, 0)
				d := calc.Fold(f, c, 9)
				wantCell, wantVal, wantTold := d, 0, false
				if n+1 >= a {
					wantCell, wantVal, wantTold = api.Cell{}, d.Acc, true
				}
				if got, v, told := calc.Window(f, c, 9); got != wantCell || v != wantVal || told != wantTold {
					t.Errorf("Window(%v, %v, 9) = %v, %d, %v", f, c, got, v, told)
				}
			}
		}
	}
}

// summed is the sum, the least, the most or the number of some values.
func summed(op int, l []int) int {
	switch op {
	case api.FLeast:
		return slices.Min(l)
	case api.FMost:
		return slices.Max(l)
	case api.FCount:
		return len(l)
	}
	sum := 0
	for _, v := range l {
		sum += v
	}
	return sum
}

// P10.7
func TestSequences(t *testing.T) {
	r := rand.New(rand.NewSource(10))
	for range 500 {
		l := make([]int, 1+r.Intn(40))
		for i := range l {
			l[i] = int(r.Uint64()) >> r.Intn(64)
		}
		op, a := 1+r.Intn(4), 1+r.Intn(16)
		folded, open := api.Cell{}, api.Cell{}
		for i, v := range l {
			folded = calc.Fold(fn(op, 0, 0), folded, v)
			if folded != (api.Cell{Acc: summed(op, l[:i+1]), N: i + 1}) {
				t.Fatal("Fold", op, l[:i+1], folded)
			}
			next, got, told := calc.Window(fn(op, a, 0), open, v)
			if told != ((i+1)%a == 0) || told && got != summed(op, l[i+1-a:i+1]) {
				t.Fatal("Window", op, a, l[:i+1], got, told)
			}
			open = next
		}
	}
}

func TestExamples(t *testing.T) {
	if calc.Map(fn(api.FMod, 3, 0), -7) != 2 || calc.Map(fn(api.FXor, 5, 0), 6) != 3 || calc.Map(fn(api.FNeg, 0, 0), 5) != -5 || calc.Map(fn(api.FNeg, 9, 0), 5) != -5 {
		t.Error("Map")
	}
	if got := calc.Fan(fn(0, 3, 10), 1); !slices.Equal(got, []int{1, 11, 21}) {
		t.Error("Fan", got)
	}
	f := fn(api.FSum, 2, 0)
	c, v, told := calc.Window(f, api.Cell{}, 3)
	if c != (api.Cell{Acc: 3, N: 1}) || v != 0 || told {
		t.Error("Window of 3", c, v, told)
	}
	if c, v, told = calc.Window(f, c, 4); c != (api.Cell{}) || v != 7 || !told {
		t.Error("Window of 4", c, v, told)
	}
}
