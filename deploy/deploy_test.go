package deploy_test

import (
	"cmp"
	"math"
	"math/rand"
	"slices"
	"testing"

	"oxbow/api"
	"oxbow/calc"
	"oxbow/coord"
	"oxbow/deploy"
	"oxbow/feed"
	"oxbow/graph"
	"oxbow/group"
	"oxbow/spec"
)

func source(parts int) api.Op { return api.Op{Kind: api.Source, Parts: parts, Rate: 1, Cost: 1} }

func op(kind int, f api.Fn, in ...int) api.Op { return api.Op{Kind: kind, Fn: f, In: in, Cost: 2} }

// chain is a source, a Map that adds 1, and a sink.
func chain() api.Spec {
	return api.Spec{Groups: 8, Ops: []api.Op{source(4), op(api.Map, api.Fn{Op: api.FAdd, A: 1}, 0), op(api.Sink, api.Fn{}, 1)}}
}

// wide is a job with all kinds of operators.
func wide() api.Spec {
	return api.Spec{Groups: 16, Ops: []api.Op{
		op(api.Sink, api.Fn{}, 8), source(4), op(api.Fold, api.Fn{Op: api.FSum}, 1), op(api.Filter, api.Fn{Op: api.FRest, A: 3, B: 1}, 2),
		source(2), op(api.FlatMap, api.Fn{A: 2, B: 100}, 4), op(api.Window, api.Fn{Op: api.FMost, A: 3}, 5), op(api.Union, api.Fn{}, 6, 2), op(api.Fold, api.Fn{Op: api.FCount}, 7), op(api.Sink, api.Fn{}, 3), op(api.Sink, api.Fn{}, 7),
	}}
}

// feeds is n records of each source, of keys that no other partition has.
func feeds(s api.Spec, n int) []api.Feed {
	var l []api.Feed
	for _, op := range spec.Sources(s) {
		f := api.Feed{Op: op, Parts: make([][]api.Rec, s.Ops[op].Parts)}
		for i := range n {
			p := i % len(f.Parts)
			f.Parts[p] = append(f.Parts[p], api.Rec{Key: 100*op + 10*p + i*7%3, Val: i*i%50 - 20})
		}
		l = append(l, f)
	}
	return l
}

// means is what a job means: of an operator, by keys.
func means(s api.Spec, l []api.Feed, at int) map[int][]int {
	out := map[int][]int{}
	o := s.Ops[at]
	if o.Kind == api.Source {
		for _, f := range l {
			for _, part := range f.Parts {
				for _, r := range part {
					if f.Op == at {
						out[r.Key] = append(out[r.Key], r.Val)
					}
				}
			}
		}
	}
	for _, in := range o.In {
		for key, vals := range means(s, l, in) {
			made := madeOf(o, key, vals)
			if len(made) > 0 {
				out[key] = append(out[key], made...)
			}
		}
	}
	return out
}

// madeOf is what an operator makes of a key's values.
func madeOf(o api.Op, key int, vals []int) []int {
	var out []int
	c := api.Cell{}
	for _, v := range vals {
		switch o.Kind {
		case api.Map:
			out = append(out, calc.Map(o.Fn, v))
		case api.Filter:
			if calc.Keep(o.Fn, api.Rec{Key: key, Val: v}) {
				out = append(out, v)
			}
		case api.FlatMap:
			out = append(out, calc.Fan(o.Fn, v)...)
		case api.Fold:
			c = calc.Fold(o.Fn, c, v)
			out = append(out, c.Acc)
		case api.Window:
			d, told, is := calc.Window(o.Fn, c, v)
			if c = d; is {
				out = append(out, told)
			}
		default:
			out = append(out, v)
		}
	}
	return out
}

func byKey(l []api.Rec) map[int][]int {
	m := map[int][]int{}
	for _, r := range l {
		m[r.Key] = append(m[r.Key], r.Val)
	}
	return m
}

func sameOuts(a, b map[int][]int) bool {
	if len(a) != len(b) {
		return false
	}
	for k := range a {
		if !slices.Equal(a[k], b[k]) {
			return false
		}
	}
	return true
}

func anyPar(r *rand.Rand, s api.Spec) []int {
	par := make([]int, len(s.Ops))
	for i, o := range s.Ops {
		most := min(s.Groups, api.MaxPar)
		if o.Kind == api.Source {
			most = min(most, o.Parts)
		}
		par[i] = 1 + r.Intn(most)
	}
	return par
}

func ones(n int) []int { return slices.Repeat([]int{1}, n) }

// P28.1, P28.3, P28.4: a new job.
func TestNew(t *testing.T) {
	s := wide()
	l := feeds(s, 30)
	j := deploy.New(s, l, 4, api.Manifest{Par: ones(len(s.Ops))})
	if j.Tasks() != len(s.Ops) || !j.Quiet() || j.Left() != 60 {
		t.Error("one task each", j.Tasks(), j.Quiet(), j.Left())
	}
	r := rand.New(rand.NewSource(1))
	for range 30 {
		par := anyPar(r, s)
		m := api.Manifest{No: 5, Par: par, Offsets: [][]int{nil, {1, 2, 3, 4}, nil, nil, {15, 99}}, Rows: make([][]api.Row, 9)}
		for _, o := range []int{2, 6, 8} {
			for k := range 40 {
				m.Rows[o] = append(m.Rows[o], api.Row{Key: k * 13, Cell: api.Cell{Acc: o, N: 1}})
			}
		}
		j := deploy.New(s, l, 4, m)
		tasks := 0
		for _, n := range par {
			tasks += n
		}
		if j.Tasks() != tasks || !j.Quiet() || j.Left() != 60-1-2-3-4-15-15 {
			t.Fatal("Tasks, Quiet, Left", j.Tasks(), j.Quiet(), j.Left())
		}
		offsets, rows := j.Offsets(), j.Rows()
		for i, o := range s.Ops {
			var want []int
			switch i {
			case 1:
				want = []int{1, 2, 3, 4}
			case 4:
				want = []int{15, 15}
			}
			if !slices.Equal(offsets[i], want) {
				t.Fatal("Offsets", i, offsets[i])
			}
			var wantRows []api.Row
			if o.Kind == api.Fold || o.Kind == api.Window {
				wantRows = sorted(m.Rows[i], s.Groups)
			}
			if !slices.Equal(rows[i], wantRows) {
				t.Fatal("Rows", i, rows[i])
			}
		}
		if len(offsets) != len(s.Ops) || len(rows) != len(s.Ops) {
			t.Fatal("a list for each operator", len(offsets), len(rows))
		}
	}
}

// sorted is rows in ascending order of the groups, then of the keys.
func sorted(l []api.Row, groups int) []api.Row {
	l = slices.Clone(l)
	slices.SortFunc(l, func(a, b api.Row) int {
		return cmp.Or(cmp.Compare(group.Of(a.Key, groups), group.Of(b.Key, groups)), cmp.Compare(a.Key, b.Key))
	})
	return l
}

// P28.2: which task does a step, and with which links.
func TestStep(t *testing.T) {
	s := chain()
	l := []api.Feed{{Op: 0, Parts: [][]api.Rec{{{Key: 1, Val: 5}}, {{Key: 2, Val: 6}}, nil, {{Key: 4, Val: 8}}}}}
	j := deploy.New(s, l, 1, api.Manifest{Par: []int{2, 3, 1}})
	step := func(n, pick, wantOp, wantKind int) api.Did {
		t.Helper()
		op, d := j.Step(n, pick)
		if op != wantOp || d.Kind != wantKind {
			t.Errorf("Step(%d, %d): operator %d, kind %d, want %d, %d", n, pick, op, d.Kind, wantOp, wantKind)
		}
		return d
	}
	for n, op := range []int{0, 0, 1, 1, 1, 2} {
		for _, turn := range []int{n + 6, n - 6, n - 12} {
			if op > 0 {
				step(turn, 3, op, api.DidNothing)
			}
		}
	}
	step(math.MinInt, 0, 1, api.DidNothing) // -2^63 is 4 modulo 6
	if d := step(6, 1, 0, api.DidRec); d.Out != 1 || d.Busy != 1 {
		t.Error("a source's record", d)
	}
	if got := j.Offsets()[0]; !slices.Equal(got, []int{0, 1, 0, 0}) || j.Left() != 2 || j.Quiet() {
		t.Error("pick 1 of task 0", got, j.Left(), j.Quiet())
	}
	step(0, 0, 0, api.DidPush)
	owner := 2 + group.Owner(group.Of(2, 8), 3, 8)
	for n := 2; n < 5; n++ {
		if n != owner {
			step(n, 0, 1, api.DidNothing)
		}
	}
	if j.Quiet() {
		t.Error("a message is on a link")
	}
	if d := step(owner, 0, 1, api.DidRec); d.Out != 1 || d.Busy != 2 {
		t.Error("a Map's record", d)
	}
	if j.Quiet() {
		t.Error("a message is pending")
	}
	step(owner, 0, 1, api.DidPush)
	if d := step(5, 0, 2, api.DidRec); d.Out != 0 || d.Busy != 2 || !j.Quiet() {
		t.Error("a sink's record", d, j.Quiet())
	}
	j.Trigger(3, true)
	if d := step(0, 0, 0, api.DidBarrier); !d.Acked || d.Ack.No != 3 || d.Ack.Task != 0 || !slices.Equal(d.Ack.Offsets, []int{0, 1, 0, 0}) {
		t.Error("a source's ack", d)
	}
	for range 3 {
		step(0, 0, 0, api.DidPush)
	}
	step(0, 0, 0, api.DidNothing)
	if d := step(1, 0, 0, api.DidBarrier); d.Ack.Task != 1 {
		t.Error("the other source's ack", d)
	}
	j.Resume()
	step(0, 0, 0, api.DidRec)
	step(0, 0, 0, api.DidWait) // the barrier is on the link still
}

// P28.2: a link holds as many messages as New is told.
func TestLinkSize(t *testing.T) {
	for _, most := range []int{1, 2, 5, 64} {
		s := api.Spec{Groups: 8, Ops: []api.Op{source(1), op(api.Sink, api.Fn{}, 0)}}
		j := deploy.New(s, []api.Feed{{Op: 0, Parts: [][]api.Rec{slices.Repeat([]api.Rec{{Key: 1}}, 100)}}}, most, api.Manifest{Par: []int{1, 1}})
		pushed := 0
		for {
			_, d := j.Step(0, 0)
			if d.Kind == api.DidWait {
				break
			}
			if d.Kind == api.DidPush {
				pushed++
			}
		}
		if pushed != most || j.Left() != 99-most {
			t.Error("pushed", pushed, "to a link of", most)
		}
	}
}

// run is a job with its checkpoints, as a coordinator would have them.
type run struct {
	t         *testing.T
	r         *rand.Rand
	s         api.Spec
	l         []api.Feed
	j         *deploy.Job
	par       []int
	no        int
	last      api.Manifest
	committed [][]api.Rec
}

// begin goes on from the last checkpoint, with any parallelism.
func (x *run) begin() {
	x.par = anyPar(x.r, x.s)
	m := x.last
	m.Par = x.par
	x.j = deploy.New(x.s, x.l, 1+x.r.Intn(3), m)
}

// checkpoint lets tasks step until all have told, or it is given up.
func (x *run) checkpoint(stop bool, steps int) bool {
	c := coord.New()
	x.no++
	c.Start(x.no, x.j.Tasks(), stop, 0)
	x.j.Trigger(x.no, stop)
	for i := 0; i < steps && !c.Ready(); i++ {
		if _, d := x.j.Step(x.r.Intn(1000), x.r.Intn(10)); d.Acked {
			c.Ack(d.Ack)
		}
	}
	m, is := c.Manifest(x.s, x.par)
	if !is {
		x.j.Resume()
		return false
	}
	x.last = m
	for op, l := range m.Outs {
		x.committed[op] = append(x.committed[op], l...)
	}
	x.last.Outs = nil
	if x.r.Intn(3) > 0 || !stop {
		x.j.Commit(m.No)
	}
	return true
}

// checkPrefix checks that what is committed is a prefix of what the job means, or all of it.
func (x *run) checkPrefix(all bool) {
	x.t.Helper()
	for _, sink := range spec.Sinks(x.s) {
		want, got := means(x.s, x.l, sink), byKey(x.committed[sink])
		for k, l := range got {
			if len(l) > len(want[k]) || !slices.Equal(l, want[k][:len(l)]) {
				x.t.Fatal("sink", sink, "key", k, "committed", l, "of", want[k])
			}
		}
		if all && !sameOuts(got, want) {
			x.t.Fatal("sink", sink, "committed", got, "not all of", want)
		}
	}
}

// P28.5, P28.6: whatever tasks step, and from whichever checkpoint it goes on, the sinks are told what the job means.
func TestExactlyOnce(t *testing.T) {
	r := rand.New(rand.NewSource(28))
	for _, s := range []api.Spec{chain(), wide()} {
		l := feeds(s, 40)
		if spec.Check(s) != api.OK || feed.Check(s, l) != api.OK {
			t.Fatal("the test's job is wrong", spec.Check(s), feed.Check(s, l))
		}
		for range 40 {
			x := &run{t: t, r: r, s: s, l: l, committed: make([][]api.Rec, len(s.Ops))}
			x.begin()
			for range 30 {
				for range r.Intn(1000) {
					x.j.Step(r.Intn(1000), r.Intn(10))
				}
				stop := r.Intn(3) == 0
				if x.checkpoint(stop, r.Intn(4000)) && stop || r.Intn(6) == 0 {
					x.begin() // what was done behind the last checkpoint is done again
				}
				x.checkPrefix(false)
			}
			for x.j.Left() > 0 || !x.j.Quiet() {
				x.j.Step(r.Intn(1000), r.Intn(10))
			}
			if !x.checkpoint(false, 1<<20) {
				t.Fatal("a checkpoint doesn't come to an end")
			}
			x.checkPrefix(true)
		}
	}
}

// P28.6: barriers that nobody waits for, and full links, hold nothing up.
func TestProgress(t *testing.T) {
	s := wide()
	l := feeds(s, 60)
	for _, most := range []int{1, 64} {
		j := deploy.New(s, l, most, api.Manifest{Par: anyPar(rand.New(rand.NewSource(3)), s)})
		acks := map[int]int{}
		for round := range 6000 {
			if round%100 == 0 && round < 4000 {
				j.Trigger(1+round/100, false)
			}
			for n := range j.Tasks() {
				if _, d := j.Step(n, round); d.Acked {
					acks[d.Ack.No]++
				}
			}
		}
		if j.Left() != 0 || !j.Quiet() {
			t.Error("it doesn't come to an end", j.Left(), j.Quiet())
		}
		for no := 1; no <= 40; no++ {
			if acks[no] != j.Tasks() {
				t.Error("checkpoint", no, "has", acks[no], "acks of", j.Tasks())
			}
		}
	}
}

// R3
func TestMemory(t *testing.T) {
	s := chain()
	l := feeds(s, 20)
	m := api.Manifest{Par: []int{1, 1, 1}, Offsets: [][]int{{1, 0, 0, 0}}}
	j := deploy.New(s, l, 4, m)
	j.Offsets()[0][1] = 9
	l[0].Parts[0], m.Offsets[0][0], m.Par[0], s.Ops[1].In[0] = nil, 0, 4, 2
	if j.Left() != 19 || !slices.Equal(j.Offsets()[0], []int{1, 0, 0, 0}) || j.Tasks() != 3 {
		t.Error("an argument was kept, or an answer shares memory", j.Left(), j.Offsets())
	}
}

func TestExamples(t *testing.T) {
	s := chain()
	j := deploy.New(s, feeds(s, 25), 4, api.Manifest{Par: []int{2, 3, 1}})
	if j.Tasks() != 6 || !j.Quiet() || j.Left() != 25 || len(graph.Tasks([]int{2, 3, 1})) != 6 {
		t.Error(j.Tasks(), j.Quiet(), j.Left())
	}
}
