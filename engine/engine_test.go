package engine_test

import (
	"math"
	"math/rand"
	"slices"
	"testing"

	"oxbow/api"
	"oxbow/calc"
	"oxbow/engine"
	"oxbow/feed"
	"oxbow/spec"
)

func source(parts, rate, cost int) api.Op {
	return api.Op{Kind: api.Source, Parts: parts, Rate: rate, Cost: cost}
}

func op(kind int, f api.Fn, in ...int) api.Op { return api.Op{Kind: kind, Fn: f, In: in, Cost: 2} }

// chain is a source, a Fold that sums, and a sink.
func chain() api.Spec {
	return api.Spec{Groups: 8, Ops: []api.Op{source(4, 30, 1), op(api.Fold, api.Fn{Op: api.FSum}, 0), op(api.Sink, api.Fn{}, 1)}}
}

// wide is a job with all kinds of operators.
func wide() api.Spec {
	return api.Spec{Groups: 16, Ops: []api.Op{
		op(api.Sink, api.Fn{}, 8), source(3, 100, 1), op(api.Fold, api.Fn{Op: api.FSum}, 1), op(api.Filter, api.Fn{Op: api.FRest, A: 3, B: 1}, 2),
		source(2, 50, 2), op(api.FlatMap, api.Fn{A: 2, B: 100}, 4), op(api.Window, api.Fn{Op: api.FMost, A: 3}, 5), op(api.Union, api.Fn{}, 6, 2), op(api.Map, api.Fn{Op: api.FMul, A: 3}, 7), op(api.Sink, api.Fn{}, 3),
	}}
}

func jobs() []api.Spec { return []api.Spec{chain(), wide()} }

// feeds is n records of each source, of keys that no other partition has.
func feeds(s api.Spec, n int) []api.Feed {
	var l []api.Feed
	for _, op := range spec.Sources(s) {
		f := api.Feed{Op: op, Parts: make([][]api.Rec, s.Ops[op].Parts)}
		for i := range n {
			p := i % len(f.Parts)
			f.Parts[p] = append(f.Parts[p], api.Rec{Key: 100*op + 10*p + i*7%3, Val: i*i%50 - 20})
		}
		l = append(l, f)
	}
	return l
}

// means is what a job means: of an operator, by keys.
func means(s api.Spec, l []api.Feed, at int) map[int][]int {
	out := map[int][]int{}
	o := s.Ops[at]
	for _, f := range l {
		for _, part := range f.Parts {
			for _, r := range part {
				if f.Op == at {
					out[r.Key] = append(out[r.Key], r.Val)
				}
			}
		}
	}
	for _, in := range o.In {
		for key, vals := range means(s, l, in) {
			if made := madeOf(o, key, vals); len(made) > 0 {
				out[key] = append(out[key], made...)
			}
		}
	}
	return out
}

// madeOf is what an operator makes of a key's values.
func madeOf(o api.Op, key int, vals []int) []int {
	var out []int
	c := api.Cell{}
	for _, v := range vals {
		switch o.Kind {
		case api.Map:
			out = append(out, calc.Map(o.Fn, v))
		case api.Filter:
			if calc.Keep(o.Fn, api.Rec{Key: key, Val: v}) {
				out = append(out, v)
			}
		case api.FlatMap:
			out = append(out, calc.Fan(o.Fn, v)...)
		case api.Fold:
			c = calc.Fold(o.Fn, c, v)
			out = append(out, c.Acc)
		case api.Window:
			d, told, is := calc.Window(o.Fn, c, v)
			if c = d; is {
				out = append(out, told)
			}
		default:
			out = append(out, v)
		}
	}
	return out
}

func byKey(l []api.Rec) map[int][]int {
	m := map[int][]int{}
	for _, r := range l {
		m[r.Key] = append(m[r.Key], r.Val)
	}
	return m
}

func ones(n int) []int { return slices.Repeat([]int{1}, n) }

func config(s api.Spec) api.Config {
	return api.Config{Workers: 4, Slots: 16, Link: 2, Disk: 5000, Every: 5, Timeout: 20, Window: 4, Cooldown: 6, Slack: 1, Most: 4, Par: ones(len(s.Ops))}
}

func anyPar(r *rand.Rand, s api.Spec, most int) []int {
	par := make([]int, len(s.Ops))
	for i, o := range s.Ops {
		n := min(most, s.Groups)
		if o.Kind == api.Source {
			n = min(n, o.Parts)
		}
		par[i] = 1 + r.Intn(n)
	}
	return par
}

func open(t *testing.T, s api.Spec, l []api.Feed, c api.Config) *engine.Engine {
	t.Helper()
	e, no := engine.New(s, l, c)
	if no != api.OK {
		t.Fatal("New", no, spec.Check(s), feed.Check(s, l))
	}
	return e
}

// P30.1
func TestNew(t *testing.T) {
	s := chain()
	l := feeds(s, 9)
	e := open(t, s, l, config(s))
	offsets, rows, is := e.State()
	if e.Status() != api.Running || e.Now() != 0 || !slices.Equal(e.Par(), ones(3)) || e.Tasks() != 3 || !is || !slices.Equal(offsets[0], []int{0, 0, 0, 0}) || len(rows[1]) != 0 {
		t.Error("a new engine", e.Status(), e.Now(), e.Par(), e.Tasks(), offsets, rows)
	}
	if m, some := e.Latest(); some || m.No != 0 || len(e.Output(2)) != 0 {
		t.Error("something is published", m)
	}
	bad := chain()
	bad.Groups = 0
	c := config(s)
	c.Workers = 0
	for _, x := range []struct {
		s    api.Spec
		l    []api.Feed
		want api.Errno
	}{{bad, nil, api.ErrArg}, {api.Spec{Groups: 3}, nil, api.ErrMany}, {s, nil, api.ErrInput}, {s, []api.Feed{{Op: 0}}, api.ErrMany}, {s, l, api.ErrArg}} {
		if e, no := engine.New(x.s, x.l, c); no != x.want || e != nil {
			t.Error("New", no, "want", x.want)
		}
	}
}

// P30.1: the limits of a configuration.
func TestConfig(t *testing.T) {
	s := chain()
	l := feeds(s, 9)
	try := func(name string, want api.Errno, change func(c *api.Config)) {
		t.Helper()
		c := config(s)
		change(&c)
		if e, no := engine.New(s, l, c); no != want || (e == nil) != (no != api.OK) {
			t.Error(name, no, "want", want)
		}
	}
	for _, x := range []struct {
		name        string
		least, most int
		field       func(c *api.Config) *int
	}{
		{"Workers", 1, 8, func(c *api.Config) *int { return &c.Workers }},
		{"Slots", 1, 16, func(c *api.Config) *int { return &c.Slots }},
		{"Link", 1, 64, func(c *api.Config) *int { return &c.Link }},
		{"Disk", 64, 1 << 18, func(c *api.Config) *int { return &c.Disk }},
		{"Every", 1, 1 << 20, func(c *api.Config) *int { return &c.Every }},
		{"Timeout", 1, 1 << 20, func(c *api.Config) *int { return &c.Timeout }},
		{"Window", 1, 1 << 20, func(c *api.Config) *int { return &c.Window }},
		{"Cooldown", 1, 1 << 20, func(c *api.Config) *int { return &c.Cooldown }},
		{"Slack", 1, 8, func(c *api.Config) *int { return &c.Slack }},
		{"Most", 1, 8, func(c *api.Config) *int { return &c.Most }},
	} {
		for n, want := range map[int]api.Errno{x.least: api.OK, x.most: api.OK, x.least - 1: api.ErrArg, x.most + 1: api.ErrArg, math.MinInt: api.ErrArg, math.MaxInt: api.ErrArg} {
			try(x.name, want, func(c *api.Config) { *x.field(c) = n })
		}
	}
	for _, x := range []struct {
		par  []int
		most int
		want api.Errno
	}{
		{[]int{4, 8, 8}, 8, api.OK}, {[]int{5, 8, 8}, 8, api.ErrArg}, {[]int{4, 4, 4}, 4, api.OK}, {[]int{4, 5, 4}, 4, api.ErrArg}, {[]int{1, 0, 1}, 8, api.ErrArg}, {[]int{1, 1, -1}, 8, api.ErrArg},
		{[]int{1, 1}, 8, api.ErrArg}, {[]int{1, 1, 1, 1}, 8, api.ErrArg}, {nil, 8, api.ErrArg}, {[]int{1, 1, math.MaxInt}, 8, api.ErrArg}, {[]int{2, 1, 1}, 1, api.ErrArg},
	} {
		try("Par", x.want, func(c *api.Config) { c.Par, c.Most = x.par, x.most })
	}
	s.Groups = 2
	try("Groups", api.ErrArg, func(c *api.Config) { c.Par = []int{1, 3, 1} })
	try("Groups", api.OK, func(c *api.Config) { c.Par = []int{2, 2, 2} })
	try("slots", api.ErrSlots, func(c *api.Config) { c.Par, c.Workers, c.Slots = []int{2, 2, 2}, 1, 5 })
	try("slots", api.OK, func(c *api.Config) { c.Par, c.Workers, c.Slots = []int{2, 2, 2}, 2, 3 })
	try("argument ahead of slots", api.ErrArg, func(c *api.Config) { c.Par, c.Workers, c.Slots, c.Slack = []int{2, 2, 2}, 1, 5, 9 })
}

// anyStep is a step of a script; of a mad one, crashes and rescales, too.
func anyStep(r *rand.Rand, s api.Spec, c api.Config, mad int) api.Step {
	switch n := r.Intn(600 + mad); {
	case n < 30:
		return api.Step{Kind: api.STick}
	case n < 130:
		return api.Step{Kind: api.SAct}
	case n < 600:
	case n < 602:
		return api.Step{Kind: api.SCrash, M: []int{0, -1, r.Intn(100), math.MaxInt, math.MaxInt}[r.Intn(5)]}
	case n < 604:
		return api.Step{Kind: api.SWorker, N: r.Intn(20) - 5}
	case n < 605:
		return api.Step{Kind: []int{0, 8, -1, math.MaxInt}[r.Intn(4)], N: 1, M: 1}
	case n < 617:
		x := api.Step{Kind: api.SRescale, Par: anyPar(r, s, c.Most)}
		switch r.Intn(12) {
		case 0:
			x.Par[r.Intn(len(x.Par))] = []int{0, -1, 9, c.Most + 1}[r.Intn(4)]
		case 1:
			x.Par = x.Par[1:]
		}
		return x
	default:
		return api.Step{Kind: api.SAuto, N: []int{0, 1, 1, 1, 2, -1}[r.Intn(6)]}
	}
	return api.Step{Kind: api.SPick, N: r.Intn(200) - 50, M: r.Intn(20) - 5}
}

func anyConfig(r *rand.Rand, s api.Spec) api.Config {
	c := api.Config{Workers: 1 + r.Intn(8), Slots: 1 + r.Intn(16), Link: 1 + r.Intn(4), Disk: 64 + r.Intn(1500), Every: 1 + r.Intn(8), Timeout: 1 + r.Intn(8), Window: 1 + r.Intn(4), Cooldown: 1 + r.Intn(8), Slack: 1 + r.Intn(2), Most: 1 + r.Intn(6), Auto: r.Intn(4) > 0}
	if r.Intn(3) > 0 {
		c.Disk = 1500 + r.Intn(5000)
	}
	c.Par = anyPar(r, s, c.Most)
	for sum(c.Par) > c.Workers*c.Slots {
		c.Workers, c.Slots = 1+r.Intn(8), 1+r.Intn(16)
	}
	return c
}

// twin is an engine, and the model that it must be like.
type twin struct {
	t         *testing.T
	e         *engine.Engine
	m         *model
	committed [][]api.Rec
	meant     []map[int][]int
	decided   []int
}

func newTwin(t *testing.T, s api.Spec, l []api.Feed, c api.Config) *twin {
	t.Helper()
	x := &twin{t: t, e: open(t, s, l, c), m: newModel(s, l, c), committed: make([][]api.Rec, len(s.Ops))}
	for op := range s.Ops {
		x.meant = append(x.meant, means(s, l, op))
	}
	return x
}

// do has both do a step, and checks that they are alike, and what holds behind each step (G1, G2, G5).
func (x *twin) do(step api.Step) api.Outcome {
	x.t.Helper()
	before, beforePar := x.e.Status(), x.e.Par()
	got, want := x.e.Do(step), x.m.do(step)
	if got.Code != want.Code || got.Status != want.Status || got.Committed != want.Committed || got.Decided != want.Decided || !slices.Equal(got.Par, want.Par) {
		x.t.Fatalf("%+v: %+v, want %+v", step, got, want)
	}
	x.checkState(step)
	for op := range x.m.s.Ops {
		out := x.e.Output(op)
		if !slices.Equal(out, x.m.store.Output(op)) {
			x.t.Fatal("Output", op, out)
		}
		if len(out) < len(x.committed[op]) || !slices.Equal(out[:len(x.committed[op])], x.committed[op]) {
			x.t.Fatal("what was committed changed", op)
		}
		if len(out) > len(x.committed[op]) {
			x.checkPrefix(op, out)
		}
		x.committed[op] = out
	}
	if got.Decided {
		n := len(x.decided)
		if n > 0 && x.e.Now()-x.decided[n-1] < x.m.c.Cooldown || before != api.Running || slices.Equal(x.m.requested, beforePar) {
			x.t.Fatal("a decision too early, or to what there is", x.decided, x.e.Now(), x.m.requested)
		}
		x.decided = append(x.decided, x.e.Now())
	}
	return got
}

// checkPrefix checks that what a sink has committed is a prefix of what the job means.
func (x *twin) checkPrefix(op int, out []api.Rec) {
	x.t.Helper()
	if x.m.s.Ops[op].Kind != api.Sink {
		x.t.Fatal("an operator that is no sink committed", op)
	}
	for k, l := range byKey(out) {
		want := x.meant[op][k]
		if len(l) > len(want) || !slices.Equal(l, want[:len(l)]) {
			x.t.Fatal("sink", op, "key", k, "committed", l, "of", want)
		}
	}
}

// checkState checks what the engine tells of itself.
func (x *twin) checkState(step api.Step) {
	x.t.Helper()
	if x.e.Status() != x.m.status || x.e.Now() != x.m.now || !slices.Equal(x.e.Par(), x.m.par) {
		x.t.Fatal(step, "Status, Now, Par", x.e.Status(), x.e.Now(), x.e.Par(), "want", x.m.status, x.m.now, x.m.par)
	}
	offsets, rows, is := x.e.State()
	if is != (x.m.job != nil) || !is && (len(offsets) > 0 || len(rows) > 0 || x.e.Tasks() != 0) {
		x.t.Fatal(step, "State", is)
	}
	if is && (x.e.Tasks() != x.m.job.Tasks() || !slices.EqualFunc(offsets, x.m.job.Offsets(), slices.Equal[[]int]) || !slices.EqualFunc(rows, x.m.job.Rows(), slices.Equal[[]api.Row])) {
		x.t.Fatal(step, "Tasks, State", x.e.Tasks(), offsets, rows)
	}
	a, some := x.e.Latest()
	b, want := x.m.store.Latest()
	if some != want || a.No != b.No || !slices.Equal(a.Par, b.Par) || !slices.EqualFunc(a.Offsets, b.Offsets, slices.Equal[[]int]) || !slices.EqualFunc(a.Rows, b.Rows, slices.Equal[[]api.Row]) || len(a.Outs) != 0 {
		x.t.Fatal(step, "Latest", a, some, "want", b, want)
	}
}

// fair has all tasks step, and then the coordinator act, till it's finished or failed; no round is needless.
func (x *twin) fair(rounds int) {
	x.t.Helper()
	for round := range rounds {
		for n := range x.e.Tasks() {
			x.do(api.Step{Kind: api.SPick, N: n, M: round})
		}
		if s := x.do(api.Step{Kind: api.SAct}).Status; s == api.Finished || s == api.Failed {
			return
		}
	}
	x.t.Fatal("it doesn't come to an end", x.e.Status())
}

// P30.2, P30.3, G1 to G6: any scripts, against the model; and then fair rounds.
func TestAnyScripts(t *testing.T) {
	r := rand.New(rand.NewSource(30))
	var acts [10]int
	count := map[int]int{}
	lost, torn, kept, decided, rescaled := 0, 0, 0, 0, 0
	for i := range 500 {
		s := jobs()[i%2]
		l := feeds(s, r.Intn(50))
		x := newTwin(t, s, l, anyConfig(r, s))
		mad := []int{0, 20, 20, 20}[r.Intn(4)]
		for range r.Intn(1500) {
			step := anyStep(r, s, x.m.c, mad)
			if mad > 0 && x.m.store.Pending() && r.Intn(40) == 0 { // while a checkpoint is being written
				step = api.Step{Kind: api.SCrash, M: r.Intn(200)}
			}
			x.do(step)
		}
		chaos := x.e.Status()
		x.fair(3000)
		count[x.e.Status()]++
		if x.e.Status() == api.Finished {
			for op, o := range s.Ops {
				got := byKey(x.e.Output(op))
				if o.Kind == api.Sink && len(got) != len(x.meant[op]) {
					t.Fatal("keys of sink", op, len(got), len(x.meant[op]))
				}
				for k, l := range x.meant[op] {
					if o.Kind == api.Sink && !slices.Equal(got[k], l) {
						t.Fatal("sink", op, "key", k, "committed", got[k], "not all of", l, "was", chaos)
					}
				}
			}
		}
		for i, n := range x.m.acts {
			acts[i] += n
		}
		if !slices.Equal(x.e.Par(), x.m.c.Par) {
			rescaled++
		}
		lost, torn, kept, decided = lost+x.m.lost, torn+x.m.torn, kept+x.m.kept, decided+len(x.decided)
	}
	for i := 1; i < 10; i++ {
		if acts[i] < 100 {
			t.Error("too few acts of case", i, acts[i])
		}
	}
	if count[api.Finished] < 100 || count[api.Failed] < 10 || lost < 100 || torn < 8 || kept < 10 || decided < 50 || rescaled < 50 {
		t.Error("too few of one kind", count, lost, torn, kept, decided, rescaled)
	}
}
