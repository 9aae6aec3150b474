package spec_test

import (
	"fmt"
	"math"
	"math/rand"
	"slices"
	"testing"

	"oxbow/api"
	"oxbow/spec"
)

func source() api.Op { return api.Op{Kind: api.Source, Parts: 1, Rate: 1, Cost: 1} }

func union(in ...int) api.Op { return api.Op{Kind: api.Union, In: in, Cost: 1} }

func sink(in ...int) api.Op { return api.Op{Kind: api.Sink, In: in, Cost: 1} }

func adds(in ...int) api.Op { return of(api.Map, api.Fn{Op: api.FAdd, A: 1}, in...) }

func of(kind int, f api.Fn, in ...int) api.Op { return api.Op{Kind: kind, In: in, Fn: f, Cost: 1} }

func job(ops ...api.Op) api.Spec { return api.Spec{Groups: 4, Ops: ops} }

// with is an operator that was changed.
func with(o api.Op, change func(o *api.Op)) api.Op { change(&o); return o }

func expect(t *testing.T, name string, s api.Spec, want api.Errno) {
	t.Helper()
	if got := spec.Check(s); got != want {
		t.Errorf("%s: %d, want %d", name, got, want)
	}
}

// chain is a source, so many Maps, and a sink.
func chain(maps int) api.Spec {
	s := job(source())
	for i := range maps {
		s.Ops = append(s.Ops, adds(i))
	}
	s.Ops = append(s.Ops, sink(maps))
	return s
}

// P5.1: the job as a whole, ahead of its operators.
func TestJob(t *testing.T) {
	good := job(source(), sink(0))
	for _, n := range []int{1, 2, 63, 64} {
		expect(t, "groups", api.Spec{Groups: n, Ops: good.Ops}, api.OK)
	}
	for _, n := range []int{0, -1, 65, math.MaxInt, math.MinInt} {
		expect(t, "groups", api.Spec{Groups: n, Ops: good.Ops}, api.ErrArg)
		expect(t, "groups, ahead of the number of operators", api.Spec{Groups: n}, api.ErrArg)
	}
	expect(t, "no operators", job(), api.ErrMany)
	expect(t, "12 operators", chain(10), api.OK)
	expect(t, "13 operators", chain(11), api.ErrMany)
	expect(t, "13 operators of no kind", job(make([]api.Op, 13)...), api.ErrMany)
	expect(t, "12 operators of no kind", job(make([]api.Op, 12)...), api.ErrKind)
}

// P5.1: what concerns one operator.
func TestOneOperator(t *testing.T) {
	for _, k := range []int{0, -1, 9, math.MaxInt, math.MinInt} {
		expect(t, "kind", job(source(), with(adds(0), func(o *api.Op) { o.Kind = k }), sink(1)), api.ErrKind)
	}
	for _, in := range [][]int{nil, {-1}, {3}, {1}, {0, 0}, {0, 2}, {math.MinInt}, {math.MaxInt}} {
		expect(t, fmt.Sprint("inputs of a Map ", in), job(source(), adds(in...), sink(1)), api.ErrInput)
		expect(t, fmt.Sprint("inputs of a Sink ", in), job(source(), sink(in...), sink(0)), api.ErrInput)
	}
	for _, in := range [][]int{nil, {0}, {0, 0}, {0, 2}, {0, 1, 0}, {0, 4}, {0, -1}} {
		expect(t, fmt.Sprint("inputs of a Union ", in), job(source(), source(), union(in...), sink(2)), api.ErrInput)
	}
	expect(t, "a Union of two", job(source(), source(), union(0, 1), sink(2)), api.OK)
	expect(t, "a Union of three", job(source(), source(), source(), union(2, 0, 1), sink(3)), api.OK)
	expect(t, "a Source with an input", job(source(), with(source(), func(o *api.Op) { o.In = []int{0} }), sink(1)), api.ErrInput)

	for _, x := range []struct {
		change func(o *api.Op)
		want   api.Errno
	}{
		{func(o *api.Op) { o.Parts = 8 }, api.OK},
		{func(o *api.Op) { o.Parts = 9 }, api.ErrArg},
		{func(o *api.Op) { o.Parts = 0 }, api.ErrArg},
		{func(o *api.Op) { o.Parts = -1 }, api.ErrArg},
		{func(o *api.Op) { o.Rate = 1 << 20 }, api.OK},
		{func(o *api.Op) { o.Rate = 1<<20 + 1 }, api.ErrArg},
		{func(o *api.Op) { o.Rate = 0 }, api.ErrArg},
		{func(o *api.Op) { o.Cost = 1000 }, api.OK},
		{func(o *api.Op) { o.Cost = 1001 }, api.ErrArg},
		{func(o *api.Op) { o.Cost = 0 }, api.ErrArg},
		{func(o *api.Op) { o.Cost = -1 }, api.ErrArg},
		{func(o *api.Op) { o.Fn.A = 1 }, api.ErrArg},
		{func(o *api.Op) { o.Fn.Op = 1 }, api.ErrArg},
		{func(o *api.Op) { o.Fn.B = -1 }, api.ErrArg},
	} {
		expect(t, "a Source", job(with(source(), x.change), sink(0)), x.want)
	}
	for i, o := range []api.Op{adds(0), sink(1)} {
		ops := []api.Op{source(), adds(0), sink(1)}
		ops[1+i] = with(o, func(o *api.Op) { o.Parts = 1 })
		expect(t, "Parts", job(ops...), api.ErrArg)
		ops[1+i] = with(o, func(o *api.Op) { o.Rate = 1 })
		expect(t, "Rate", job(ops...), api.ErrArg)
		ops[1+i] = with(o, func(o *api.Op) { o.Cost = 0 })
		expect(t, "Cost", job(ops...), api.ErrArg)
		ops[1+i] = with(o, func(o *api.Op) { o.Cost = 1001 })
		expect(t, "Cost", job(ops...), api.ErrArg)
		ops[1+i] = with(o, func(o *api.Op) { o.Cost = 1000 })
		expect(t, "Cost", job(ops...), api.OK)
	}
}

// okFn is the table of the chapter, once more.
func okFn(kind int, f api.Fn) bool {
	one := func(least, most, n int) bool { return n >= least && n <= most }
	switch kind {
	case api.Map:
		return one(1, 7, f.Op) && f.B == 0 && (f.Op != 5 || f.A > 0)
	case api.Filter:
		return f.Op == 1 && f.B == 0 || one(2, 3, f.Op) && f.A > 0 && one(0, f.A-1, f.B)
	case api.FlatMap:
		return f.Op == 0 && one(0, 4, f.A)
	case api.Fold:
		return one(1, 4, f.Op) && f.A == 0 && f.B == 0
	case api.Window:
		return one(1, 4, f.Op) && one(1, 16, f.A) && f.B == 0
	}
	return f.Op == 0 && f.A == 0 && f.B == 0
}

// P5.1: the Fn of each kind.
func TestFns(t *testing.T) {
	numbers := []int{math.MinInt, -2, -1, 0, 1, 2, 3, 4, 5, 15, 16, 17, math.MaxInt}
	for kind := api.Map; kind <= api.Sink; kind++ {
		for op := -1; op <= 9; op++ {
			for _, a := range numbers {
				for _, b := range numbers {
					f := api.Fn{Op: op, A: a, B: b}
					s := job(source(), of(kind, f, 0), sink(1))
					if kind == api.Union {
						s = job(source(), of(kind, f, 0, 3), sink(1), source())
					}
					if kind == api.Sink {
						s = job(source(), of(kind, f, 0), sink(0))
					}
					want := api.ErrArg
					if okFn(kind, f) {
						want = api.OK
					}
					expect(t, fmt.Sprint("kind ", kind, f), s, want)
				}
			}
		}
	}
}

// P5.1: which error comes first.
func TestFirstError(t *testing.T) {
	bad := api.Op{Kind: 9, In: []int{77}, Fn: api.Fn{Op: 9}, Cost: -1}
	expect(t, "kind, then input", job(source(), bad, sink(0)), api.ErrKind)
	bad.Kind = api.Map
	expect(t, "input, then argument", job(source(), bad, sink(0)), api.ErrInput)
	bad.In = []int{0}
	expect(t, "argument", job(source(), bad, sink(1)), api.ErrArg)
	expect(t, "an earlier operator's", job(source(), bad, api.Op{Kind: 9}, sink(1)), api.ErrArg)
	expect(t, "a later operator's", job(source(), adds(0), api.Op{Kind: 9}, bad, sink(1)), api.ErrKind)
	expect(t, "one operator's ahead of the whole's", job(source(), source(), bad, sink(2)), api.ErrArg)
	expect(t, "unused ahead of a cycle", job(source(), adds(2), adds(1), sink(1)), api.ErrInput)
	expect(t, "a cycle ahead of keys", job(source(), adds(2), adds(1), sink(1), sink(4), union(0, 6), adds(0), sink(5)), api.ErrInput)
	expect(t, "a cycle ahead of keys", job(source(), adds(2), adds(1), sink(1), adds(0), union(0, 4), sink(5)), api.ErrCycle)
}

// P5.1: what concerns the whole.
func TestWhole(t *testing.T) {
	expect(t, "source, sink", job(source(), sink(0)), api.OK)
	expect(t, "source alone", job(source()), api.ErrInput)
	expect(t, "sink alone", job(sink(0)), api.ErrInput)
	expect(t, "an input of a sink", job(source(), adds(2), sink(1)), api.ErrInput)
	expect(t, "a sink as an input", job(source(), sink(0), sink(1)), api.ErrInput)
	expect(t, "a sink as an input of a Map", job(source(), sink(0), adds(1), sink(2)), api.ErrInput)
	expect(t, "a Map that none uses", job(source(), adds(0), sink(0)), api.ErrInput)
	expect(t, "a Source that none uses", job(source(), sink(0), source()), api.ErrInput)
	expect(t, "a cycle", job(source(), adds(2), adds(1), sink(0), sink(1)), api.ErrCycle)
	expect(t, "a cycle through a Union", job(source(), union(0, 2), adds(1), sink(1)), api.ErrCycle)
	expect(t, "one source by two ways", job(source(), adds(0), union(0, 1), sink(2)), api.ErrKeys)
	expect(t, "one source by two Maps", job(source(), adds(0), adds(0), union(1, 2), sink(3)), api.ErrKeys)
	expect(t, "one source by two ways, to two sinks", job(source(), adds(0), sink(0), sink(1)), api.OK)
	expect(t, "one of three inputs again", job(source(), source(), source(), union(0, 1), adds(3), union(2, 4, 7), sink(5), adds(1)), api.ErrKeys)
	expect(t, "numbers in any order", job(sink(3), source(), source(), union(1, 4), adds(2)), api.OK)
}

// reach is, of each operator, whether it depends on each one, itself included: a plain closure.
func reach(s api.Spec) [][]bool {
	m := make([][]bool, len(s.Ops))
	for i, o := range s.Ops {
		m[i] = make([]bool, len(s.Ops))
		m[i][i] = true
		for _, in := range o.In {
			m[i][in] = true
		}
	}
	for k := range m {
		for i := range m {
			for j := range m {
				m[i][j] = m[i][j] || m[i][k] && m[k][j]
			}
		}
	}
	return m
}

// verdict is Check of a job whose operators are right one by one.
func verdict(s api.Spec) api.Errno {
	m := reach(s)
	for i, o := range s.Ops {
		used := slices.ContainsFunc(s.Ops, func(p api.Op) bool { return slices.Contains(p.In, i) })
		if used == (o.Kind == api.Sink) {
			return api.ErrInput
		}
	}
	for i, o := range s.Ops {
		for _, in := range o.In {
			if m[in][i] {
				return api.ErrCycle
			}
		}
	}
	for _, o := range s.Ops {
		for _, a := range o.In {
			for _, b := range o.In {
				for r, p := range s.Ops {
					if a != b && p.Kind == api.Source && m[a][r] && m[b][r] {
						return api.ErrKeys
					}
				}
			}
		}
	}
	return api.OK
}

// anyJob is a job whose operators are right one by one; of a forward one, inputs come first, mostly.
func anyJob(r *rand.Rand) api.Spec {
	n := 2 + r.Intn(7)
	s := api.Spec{Groups: 1 + r.Intn(64)}
	other := func(i int) int {
		if i > 0 && r.Intn(12) > 0 {
			return r.Intn(i)
		}
		return (i + 1 + r.Intn(n-1)) % n
	}
	for i := range n {
		switch k := r.Intn(6); {
		case k == 0 || i == 0:
			s.Ops = append(s.Ops, source())
		case k == 1 && n > 2:
			a, b := other(i), other(i)
			for b == a {
				b = (i + 1 + r.Intn(n-1)) % n
			}
			s.Ops = append(s.Ops, union(a, b))
		case k < 4:
			s.Ops = append(s.Ops, adds(other(i)))
		default:
			s.Ops = append(s.Ops, sink(other(i)))
		}
	}
	for i := range n { // an operator that none uses feeds a new sink
		used := slices.ContainsFunc(s.Ops, func(p api.Op) bool { return slices.Contains(p.In, i) })
		if !used && s.Ops[i].Kind != api.Sink && len(s.Ops) < api.MaxOps && r.Intn(10) > 0 {
			s.Ops = append(s.Ops, sink(i))
		}
	}
	return s
}

// renumbered is the same job, its operators in another order; at[i] is the new number of i.
func renumbered(s api.Spec, at []int) api.Spec {
	ops := make([]api.Op, len(s.Ops))
	for i, o := range s.Ops {
		in := make([]int, len(o.In))
		for k, x := range o.In {
			in[k] = at[x]
		}
		o.In = in
		ops[at[i]] = o
	}
	return api.Spec{Groups: s.Groups, Ops: ops}
}

// P5.1 to P5.4, on jobs of all shapes.
func TestAnyJobs(t *testing.T) {
	r := rand.New(rand.NewSource(5))
	count := map[api.Errno]int{}
	for range 20000 {
		s := anyJob(r)
		if slices.ContainsFunc(s.Ops, func(o api.Op) bool { return slices.Contains(o.In, -1) }) {
			t.Fatal("no job", s)
		}
		want := verdict(s)
		count[want]++
		expect(t, fmt.Sprint(s), s, want)
		if got := spec.Check(renumbered(s, r.Perm(len(s.Ops)))); (got == api.OK) != (want == api.OK) {
			t.Fatal("another verdict of the renumbered job", s, got, want)
		}
		if want == api.OK {
			checkQuestions(t, s)
		}
	}
	for _, no := range []api.Errno{api.OK, api.ErrInput, api.ErrCycle, api.ErrKeys} {
		if count[no] < 100 {
			t.Error("too few jobs of verdict", no, count[no])
		}
	}
}

// order is the chapter's order, once more: each time the least operator whose inputs all are there.
func order(s api.Spec) []int {
	var l []int
	for len(l) < len(s.Ops) {
		for i, o := range s.Ops {
			missing := slices.ContainsFunc(o.In, func(in int) bool { return !slices.Contains(l, in) })
			if !slices.Contains(l, i) && !missing {
				l = append(l, i)
				break
			}
		}
	}
	return l
}

// P5.2, P5.3
func checkQuestions(t *testing.T, s api.Spec) {
	t.Helper()
	m := reach(s)
	if got := spec.Order(s); !slices.Equal(got, order(s)) {
		t.Fatal("Order", s, got)
	}
	kinds := func(kind int) []int {
		var l []int
		for i, o := range s.Ops {
			if o.Kind == kind {
				l = append(l, i)
			}
		}
		return l
	}
	if !slices.Equal(spec.Sources(s), kinds(api.Source)) || !slices.Equal(spec.Sinks(s), kinds(api.Sink)) {
		t.Fatal("Sources, Sinks", s)
	}
	for i := range s.Ops {
		var users, roots []int
		reaches := false
		for j, o := range s.Ops {
			if slices.Contains(o.In, i) {
				users = append(users, j)
			}
			if o.Kind == api.Source && m[i][j] {
				roots = append(roots, j)
			}
			reaches = reaches || o.Kind == api.Sink && m[j][i]
		}
		if !slices.Equal(spec.Users(s, i), users) || !slices.Equal(spec.Roots(s, i), roots) {
			t.Fatal("Users, Roots", s, i)
		}
		if len(roots) == 0 || !reaches {
			t.Fatal("an operator of no source, or of no sink", s, i)
		}
		if s.Ops[i].Kind == api.Union {
			var all []int
			for _, in := range s.Ops[i].In {
				all = append(all, spec.Roots(s, in)...)
			}
			slices.Sort(all)
			if !slices.Equal(all, spec.Roots(s, i)) {
				t.Fatal("the roots of a Union aren't those of its inputs, each once", s, i)
			}
		}
	}
}

// P5.2: numbers that are no operator's.
func TestNoOperator(t *testing.T) {
	s := job(source(), sink(0))
	for _, op := range []int{-1, 2, math.MaxInt, math.MinInt} {
		if len(spec.Users(s, op)) != 0 || len(spec.Roots(s, op)) != 0 {
			t.Error("users or roots of", op)
		}
	}
}

// R3, R1
func TestArgumentStays(t *testing.T) {
	in := []int{2, 1, 0, 99}
	s := job(source(), source(), source(), union(in[:3]...), sink(3))
	spec.Check(s)
	spec.Order(s)
	spec.Roots(s, 3)
	spec.Users(s, 0)
	if !slices.Equal(in, []int{2, 1, 0, 99}) {
		t.Error("the job was changed", in)
	}
	a := spec.Roots(s, 3)
	a[0] = 77
	if !slices.Equal(spec.Roots(s, 3), []int{0, 1, 2}) {
		t.Error("two answers share memory")
	}
}

func TestExamples(t *testing.T) {
	s := job(sink(2), source(), adds(1))
	expect(t, "the chapter's job", s, api.OK)
	if got := spec.Order(s); !slices.Equal(got, []int{1, 2, 0}) {
		t.Error("Order", got)
	}
	if got := spec.Users(s, 1); !slices.Equal(got, []int{2}) {
		t.Error("Users", got)
	}
	if got := spec.Roots(s, 0); !slices.Equal(got, []int{1}) {
		t.Error("Roots", got)
	}
}
