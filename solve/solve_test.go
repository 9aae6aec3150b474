package solve_test

import (
	"math"
	"math/big"
	"math/rand"
	"slices"
	"testing"

	"oxbow/api"
	"oxbow/solve"
	"oxbow/spec"
)

func source(rate, parts int) api.Op {
	return api.Op{Kind: api.Source, Parts: parts, Rate: rate, Cost: 1}
}

func op(kind int, in ...int) api.Op {
	o := api.Op{Kind: kind, In: in, Cost: 1}
	if kind == api.Map {
		o.Fn.Op = api.FAdd
	}
	return o
}

func job(groups int, ops ...api.Op) api.Spec { return api.Spec{Groups: groups, Ops: ops} }

func m(in, out, busy int) api.Measure { return api.Measure{In: in, Out: out, Busy: busy} }

// fits tells whether a number can be an api.Frac.
func fits(x *big.Rat) bool { return x.Num().IsInt64() && x.Denom().IsInt64() }

func ratio(n, d int) *big.Rat { return big.NewRat(int64(n), int64(d)) }

// need is the chapter's, once more, by great numbers, of one operator that has no unknown input.
func need(s api.Spec, i int, x api.Measure, rates []*big.Rat, most int) (int, *big.Rat, api.Errno) {
	o := s.Ops[i]
	if x.In == 0 || x.Busy == 0 {
		return 0, nil, api.ErrZero
	}
	rate := new(big.Rat)
	if o.Kind == api.Source {
		rate = ratio(o.Rate, 1)
	}
	for _, in := range o.In {
		rate = new(big.Rat).Add(rate, rates[in])
		if !fits(rate) {
			return 0, nil, api.ErrOver
		}
	}
	spent := new(big.Int).Mul(big.NewInt(int64(x.In)), big.NewInt(api.Unit))
	out := new(big.Rat).Mul(rate, ratio(x.Out, x.In))
	if !spent.IsInt64() || !fits(out) {
		return 0, nil, api.ErrOver
	}
	load := new(big.Rat).Mul(rate, new(big.Rat).SetFrac(big.NewInt(int64(x.Busy)), spent))
	if !fits(load) {
		return 0, nil, api.ErrOver
	}
	up := new(big.Int).Add(load.Num(), new(big.Int).Sub(load.Denom(), big.NewInt(1)))
	n := up.Div(up, load.Denom())
	limit := min(most, api.MaxPar, s.Groups)
	if o.Kind == api.Source {
		limit = min(limit, o.Parts)
	}
	if n.Cmp(big.NewInt(int64(limit))) > 0 {
		return limit, out, api.OK
	}
	return max(1, int(n.Int64())), out, api.OK
}

func solved(s api.Spec, l []api.Measure, cur []int, most int) ([]int, api.Errno) {
	got, first := slices.Clone(cur), api.OK
	rates := make([]*big.Rat, len(s.Ops))
	for _, i := range spec.Order(s) {
		if slices.ContainsFunc(s.Ops[i].In, func(in int) bool { return rates[in] == nil }) {
			continue
		}
		n, out, no := need(s, i, l[i], rates, most)
		if no == api.OK {
			got[i], rates[i] = n, out
		} else if first == api.OK {
			first = no
		}
	}
	return got, first
}

func check(t *testing.T, name string, s api.Spec, l []api.Measure, cur []int, most int) api.Errno {
	t.Helper()
	if no := spec.Check(s); no != api.OK {
		t.Fatal("the test's job is wrong", no)
	}
	got, no := solve.Solve(s, l, cur, most)
	want, wantNo := solved(s, l, cur, most)
	if !slices.Equal(got, want) || no != wantNo {
		t.Errorf("%s: Solve(%v, %v, %v, %d) = %v, %d, want %v, %d", name, s, l, cur, most, got, no, want, wantNo)
	}
	return no
}

// P26.1: the limits of a number of tasks.
func TestLimits(t *testing.T) {
	for _, x := range []struct{ groups, parts, most, busy, source, sink int }{
		{8, 8, 8, 1, 1, 1}, {8, 8, 8, 100, 1, 1}, {8, 8, 8, 101, 2, 2}, {8, 8, 8, 700, 7, 7}, {8, 8, 8, 701, 8, 8}, {8, 8, 8, 5000, 8, 8}, {64, 8, 100, 5000, 8, 8},
		{3, 8, 8, 5000, 3, 3}, {8, 2, 8, 5000, 2, 8}, {8, 8, 5, 5000, 5, 5}, {8, 4, 1, 5000, 1, 1}, {1, 1, 8, math.MaxInt, 1, 1},
	} {
		s := job(x.groups, source(1, x.parts), op(api.Sink, 0))
		l := []api.Measure{m(1, 1, x.busy), m(1, 0, x.busy)}
		got, no := solve.Solve(s, l, []int{9, 9}, x.most)
		if no != api.OK || !slices.Equal(got, []int{x.source, x.sink}) {
			t.Error(x, got, no)
		}
		check(t, "limits", s, l, []int{9, 9}, x.most)
	}
}

// P26.1: what is unknown, and which error comes first.
func TestUnknown(t *testing.T) {
	chain := job(8, source(101, 8), op(api.Map, 0), op(api.Map, 1), op(api.Sink, 2))
	good := m(10, 10, 100)
	for _, x := range []struct {
		name string
		l    []api.Measure
		want []int
		no   api.Errno
	}{
		{"all known", []api.Measure{good, good, good, good}, []int{8, 8, 8, 8}, api.OK},
		{"nothing", make([]api.Measure, 4), []int{5, 6, 7, 3}, api.ErrZero},
		{"no In of the first", []api.Measure{m(0, 1, 1), good, good, good}, []int{5, 6, 7, 3}, api.ErrZero},
		{"no Busy of the second", []api.Measure{good, m(10, 10, 0), good, good}, []int{8, 6, 7, 3}, api.ErrZero},
		{"no In of the third", []api.Measure{good, good, m(0, 10, 10), good}, []int{8, 8, 7, 3}, api.ErrZero},
		{"nothing of the last but Wait", []api.Measure{good, good, good, {Wait: 9}}, []int{8, 8, 8, 3}, api.ErrZero},
		{"too many In of the second", []api.Measure{good, m(math.MaxInt/100+1, 1, 1), {}, {}}, []int{8, 6, 7, 3}, api.ErrOver},
		{"as many In as there may be", []api.Measure{good, m(math.MaxInt/100, math.MaxInt/100, 1), good, good}, []int{8, 1, 8, 8}, api.OK},
		{"too many Out of the first", []api.Measure{m(1, math.MaxInt/50, 1), good, {}, good}, []int{5, 6, 7, 3}, api.ErrOver},
		{"too many Out of the sink", []api.Measure{good, good, good, m(1, math.MaxInt/50, 1)}, []int{8, 8, 8, 3}, api.ErrOver},
		{"no Out of the second: 0 records a tick", []api.Measure{good, m(10, 0, 100), good, good}, []int{8, 8, 1, 1}, api.OK},
		{"too much Busy", []api.Measure{good, good, m(1, 1, math.MaxInt), good}, []int{8, 8, 7, 3}, api.ErrOver},
	} {
		got, no := solve.Solve(chain, x.l, []int{5, 6, 7, 3}, 8)
		if !slices.Equal(got, x.want) || no != x.no {
			t.Error(x.name, got, no, "want", x.want, x.no)
		}
		check(t, x.name, chain, x.l, []int{5, 6, 7, 3}, 8)
	}
	two := job(8, op(api.Sink, 2), op(api.Sink, 3), source(10, 8), source(10, 8))
	for _, l := range [][]api.Measure{{good, good, m(math.MaxInt, 1, 1), {}}, {good, good, {}, m(math.MaxInt, 1, 1)}, {good, {}, good, m(math.MaxInt, 1, 1)}, {{}, good, good, m(math.MaxInt, 1, 1)}, {m(math.MaxInt, 1, 1), good, good, {}}} {
		check(t, "two errors: that of the order comes first", two, l, []int{1, 2, 3, 4}, 8)
	}
}

// P26.1: a rate that is a sum, added in the order of In, each sum of which must be a Frac.
func TestSums(t *testing.T) {
	s := job(64, source(60, 8), source(45, 8), source(1, 8), op(api.Union, 1, 0, 2), op(api.Sink, 3))
	l := []api.Measure{m(3, 1, 1), m(2, 1, 1), m(1, 1, 1), m(100, 100, 1000), m(1, 1, 100)}
	if got, no := solve.Solve(s, l, make([]int, 5), 8); no != api.OK || !slices.Equal(got, []int{1, 1, 1, 5, 8}) {
		t.Error("60/3 + 45/2 + 1", got, no)
	}
	big1, big2 := 3037000507, 3037000493 // each product of two of these is above the greatest int
	over := 0
	for _, in := range [][]int{{0, 1, 2}, {0, 2, 1}, {1, 2, 0}, {2, 1, 0}} {
		s.Ops[3].In = in
		for _, l := range [][]api.Measure{
			{m(big1, 1, 1), m(big2, 1, 1), m(1, 1, 1), m(1, 1, 1), m(1, 1, 1)},
			{m(big1, 1, 1), m(1, 1, 1), m(big1, big1-60, 1), m(1, 1, 1), m(1, 1, 1)},
			{m(1, math.MaxInt/60, 1), m(1, 1, 1), m(1, 1, 1), m(1, 1, 1), m(1, 1, 1)},
			{m(1, math.MaxInt/60, 1), m(1, 1, 1), m(1, 1, 1), m(1, 0, 1), m(1, 1, 1)},
		} {
			if check(t, "great sums", s, l, []int{1, 2, 3, 4, 5}, 8) == api.ErrOver {
				over++
			}
		}
	}
	if over < 4 {
		t.Error("too few sums that are too great", over)
	}
}

// shapes is some jobs.
func shapes(r *rand.Rand) api.Spec {
	rate := func() int { return 1 + r.Intn(1<<r.Intn(21)) }
	g := 1 + r.Intn(12)
	switch r.Intn(3) {
	case 0:
		return job(g, source(rate(), 1+r.Intn(8)), op(api.Map, 0), op(api.Sink, 1))
	case 1:
		return job(g, op(api.Sink, 2), op(api.Sink, 4), op(api.Map, 4), source(rate(), 1+r.Intn(8)), op(api.Union, 5, 3), source(rate(), 1+r.Intn(8)))
	}
	return job(g, source(rate(), 1+r.Intn(8)), source(rate(), 1+r.Intn(8)), source(rate(), 1+r.Intn(8)), op(api.Map, 1), op(api.Union, 0, 3), op(api.Map, 2), op(api.Union, 4, 5), op(api.Sink, 6), op(api.Sink, 0))
}

// P26.1, P26.2
func TestAnyMeasures(t *testing.T) {
	r := rand.New(rand.NewSource(26))
	count := map[api.Errno]int{}
	for range 10000 {
		s := shapes(r)
		great := r.Intn(62)
		number := func() int {
			if r.Intn(40) == 0 {
				return 0
			}
			return int(r.Uint64() >> (1 + great) >> r.Intn(4))
		}
		var l []api.Measure
		var cur, other []int
		for range s.Ops {
			l = append(l, api.Measure{In: number(), Out: number(), Busy: number(), Wait: number()})
			cur = append(cur, 1+r.Intn(8))
			other = append(other, 1+r.Intn(8))
		}
		most := 1 + r.Intn(9)
		no := check(t, "any", s, l, cur, most)
		count[no]++
		if no != api.OK {
			continue
		}
		got, _ := solve.Solve(s, l, cur, most)
		if again, _ := solve.Solve(s, l, other, most); !slices.Equal(got, again) {
			t.Fatal("cur matters", s, l)
		}
		k := 1 + r.Intn(9)
		for i, x := range l {
			if x.In < 1<<50 && x.Out < 1<<50 && x.Busy < 1<<50 {
				l[i] = api.Measure{In: k * x.In, Out: k * x.Out, Busy: k * x.Busy, Wait: x.Wait}
			}
		}
		if again, no := solve.Solve(s, l, cur, most); !slices.Equal(got, again) || no != api.OK {
			t.Fatal("a factor matters", s, l, got, again, no)
		}
	}
	for _, no := range []api.Errno{api.OK, api.ErrZero, api.ErrOver} {
		if count[no] < 100 {
			t.Error("too few of error", no, count[no])
		}
	}
}

// P26.3
func TestMinimal(t *testing.T) {
	for rate := 1; rate < 400; rate++ {
		for _, busy := range []int{1, 3, 10, 33, 50} {
			s := job(64, source(rate, 8), op(api.Sink, 0))
			got, no := solve.Solve(s, []api.Measure{m(10, 10, busy), m(10, 0, busy)}, []int{1, 1}, 8)
			if no != api.OK || got[0] != got[1] {
				t.Fatal(rate, busy, got, no)
			}
			n := got[0] // of which each does Unit in a tick, and a record costs busy / 10
			enough := func(n int) bool { return n*api.Unit*10 >= rate*busy }
			if n < 1 || n > 8 || n < 8 && !enough(n) || n > 1 && enough(n-1) {
				t.Fatal("rate", rate, "busy", busy, "needs", n)
			}
		}
	}
}

// R3
func TestMemory(t *testing.T) {
	s := job(8, source(60, 8), op(api.Map, 0), op(api.Sink, 1))
	cur := []int{1, 5, 6, 77}[:3]
	l := []api.Measure{m(10, 10, 1000), m(10, 20, 0), m(20, 0, 20)}
	got, _ := solve.Solve(s, l, cur, 8)
	got[1] = 99
	if !slices.Equal(cur[:4], []int{1, 5, 6, 77}) || l[0] != m(10, 10, 1000) {
		t.Error("an argument was changed", cur)
	}
}

func TestExamples(t *testing.T) {
	s := job(8, source(60, 8), op(api.Map, 0), op(api.Sink, 1))
	l := []api.Measure{m(10, 10, 10), m(10, 20, 50), m(20, 0, 20)}
	if got, no := solve.Solve(s, l, []int{1, 1, 1}, 8); no != api.OK || !slices.Equal(got, []int{1, 3, 2}) {
		t.Error(got, no)
	}
	l[1].Busy = 0
	if got, no := solve.Solve(s, l, []int{1, 5, 6}, 8); no != api.ErrZero || !slices.Equal(got, []int{1, 5, 6}) {
		t.Error(got, no)
	}
}
