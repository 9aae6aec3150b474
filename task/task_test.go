package task_test

import (
	"math"
	"math/rand"
	"slices"
	"testing"

	"oxbow/api"
	"oxbow/graph"
	"oxbow/group"
	"oxbow/link"
	"oxbow/route"
	"oxbow/spec"
	"oxbow/table"
	"oxbow/task"
)

func rec(key, val int) api.Rec { return api.Rec{Key: key, Val: val} }

func msg(key, val int) api.Msg { return api.Msg{Kind: api.MRec, Rec: rec(key, val)} }

func barrier(no int) api.Msg { return api.Msg{Kind: api.MBarrier, No: no} }

func source(parts, cost int) api.Op {
	return api.Op{Kind: api.Source, Parts: parts, Rate: 1, Cost: cost}
}

func op(kind, cost int, f api.Fn, in ...int) api.Op {
	return api.Op{Kind: kind, In: in, Fn: f, Cost: cost}
}

// single is a job of a source, an operator, and a sink.
func single(o api.Op, parts int) api.Spec {
	o.In = []int{0}
	return api.Spec{Groups: 8, Ops: []api.Op{source(parts, 3), o, op(api.Sink, 9, api.Fn{}, 1)}}
}

func links(n, most int) []*link.Link {
	var l []*link.Link
	for range n {
		l = append(l, link.New(most))
	}
	return l
}

func same(t *testing.T, name string, got, want api.Did) {
	t.Helper()
	a, b := got.Ack, want.Ack
	if got.Kind != want.Kind || got.Out != want.Out || got.Busy != want.Busy || got.Acked != want.Acked || a.No != b.No || a.Task != b.Task || !slices.Equal(a.Offsets, b.Offsets) || !slices.Equal(a.Rows, b.Rows) || !slices.Equal(a.Outs, b.Outs) {
		t.Errorf("%s: %+v, want %+v", name, got, want)
	}
}

// drain takes all messages of a link.
func drain(l *link.Link) []api.Msg {
	var out []api.Msg
	for {
		m, ok := l.Pop()
		if !ok {
			return out
		}
		out = append(out, m)
	}
}

func did(kind int) api.Did { return api.Did{Kind: kind} }

// P22.1, P22.4: the partitions of a source's tasks, and where they stand.
func TestPartitions(t *testing.T) {
	for parts := 1; parts <= 8; parts++ {
		var all [][]api.Rec
		var offsets []int
		left := 0
		for p := range parts {
			all = append(all, slices.Repeat([]api.Rec{rec(p, 1)}, p+2))
			offsets = append(offsets, p%3)
			left += p + 2 - p%3
		}
		s := single(op(api.Union, 1, api.Fn{}), parts)
		s.Ops[1] = op(api.Map, 1, api.Fn{Op: api.FAdd}, 0)
		for par := 1; par <= parts; par++ {
			sum := 0
			for n := range par {
				x := task.New(s, []int{par, 1, 1}, api.Spot{Op: 0, Task: n}, all, offsets, []api.Row{{Key: 1, Cell: api.Cell{N: 1}}})
				want, rest := make([]int, parts), 0
				for p := range parts {
					if group.Owner(p, par, parts) == n {
						want[p] = offsets[p]
						rest += p + 2 - offsets[p]
					}
				}
				sum += x.Left()
				if !slices.Equal(x.Offsets(), want) || x.Left() != rest || x.Waits() != 0 || len(x.Rows()) != 0 {
					t.Error(parts, par, n, x.Offsets(), x.Left())
				}
			}
			if sum != left {
				t.Error("records of all tasks", sum, left)
			}
		}
	}
}

// P22.1, P22.4: the states of a task.
func TestRowsOfTasks(t *testing.T) {
	var rows []api.Row
	for k := range 60 {
		rows = append(rows, api.Row{Key: k * 7, Cell: api.Cell{Acc: k, N: 1}})
	}
	for _, o := range []api.Op{op(api.Fold, 1, api.Fn{Op: api.FSum}), op(api.Window, 1, api.Fn{Op: api.FSum, A: 3}), op(api.Map, 1, api.Fn{Op: api.FAdd})} {
		s := single(o, 1)
		for par := 1; par <= 8; par++ {
			for n := range par {
				tab := table.New(8)
				for _, r := range rows {
					if o.Kind != api.Map && group.Owner(group.Of(r.Key, 8), par, 8) == n {
						tab.Put(r.Key, r.Cell)
					}
				}
				x := task.New(s, []int{1, par, 1}, api.Spot{Op: 1, Task: n}, nil, nil, rows)
				if !slices.Equal(x.Rows(), tab.Rows()) || len(x.Offsets()) != 0 || x.Left() != 0 || x.Waits() != 0 {
					t.Error(o.Kind, par, n, x.Rows())
				}
			}
		}
	}
	s := single(op(api.Map, 1, api.Fn{Op: api.FAdd}), 1)
	x := task.New(s, []int{1, 1, 2}, api.Spot{Op: 2, Task: 1}, nil, nil, rows)
	if len(x.Rows()) != 0 || len(x.Offsets()) != 0 || x.Left() != 0 {
		t.Error("a sink has rows, or offsets")
	}
}

// P22.2: what comes first: a pending message, a trigger, a record; and the source's records by pick.
func TestSource(t *testing.T) {
	s := single(op(api.Map, 1, api.Fn{Op: api.FAdd}), 4)
	parts := [][]api.Rec{{rec(10, 1), rec(10, 2)}, nil, {rec(30, 3), rec(30, 4)}, {rec(40, 5)}}
	par := []int{2, 1, 1}
	x := task.New(s, par, api.Spot{Op: 0, Task: 1}, parts, []int{1, 0, 0, 0}, nil) // it has the partitions 2 and 3
	out, to := links(1, 1), []api.Spot{{Op: 1}}
	step := func(name string, pick int, want api.Did) {
		t.Helper()
		same(t, name, x.Step(nil, out, to, pick), want)
	}
	sent := api.Did{Kind: api.DidRec, Out: 1, Busy: 3}
	step("pick 5: its second partition", 5, sent)
	if x.Waits() != 1 || x.Left() != 2 || !slices.Equal(x.Offsets(), []int{0, 0, 0, 1}) {
		t.Error("behind a record", x.Waits(), x.Left(), x.Offsets())
	}
	x.Trigger(7, false)
	x.Trigger(8, true)
	step("a pending message ahead of triggers", 0, did(api.DidPush))
	acked := func(no int, offsets ...int) api.Did {
		return api.Did{Kind: api.DidBarrier, Acked: true, Ack: api.Ack{No: no, Task: 1, Offsets: offsets}}
	}
	step("the first trigger", 0, acked(7, 0, 0, 0, 1))
	step("no room", 0, did(api.DidWait))
	step("no room again", 0, did(api.DidWait))
	if x.Waits() != 1 || !slices.Equal(drain(out[0]), []api.Msg{msg(40, 5)}) {
		t.Error("a message that waits")
	}
	step("room", 0, did(api.DidPush))
	step("the second trigger", 0, acked(8, 0, 0, 0, 1))
	drain(out[0])
	step("its barrier", 0, did(api.DidPush))
	step("it rests", 0, did(api.DidNothing))
	x.Trigger(9, false)
	step("a trigger while it rests", 0, acked(9, 0, 0, 0, 1))
	drain(out[0])
	step("its barrier", 0, did(api.DidPush))
	step("it rests still", 0, did(api.DidNothing))
	x.Trigger(10, true)
	x.Resume()
	drain(out[0])
	step("a trigger that was a stop", 0, acked(10, 0, 0, 0, 1))
	step("its barrier", 0, did(api.DidPush))
	if !slices.Equal(drain(out[0]), []api.Msg{barrier(10)}) {
		t.Error("the barrier")
	}
	step("it goes on: pick 1, but nothing is left there", 1, sent)
	step("push", 0, did(api.DidPush))
	drain(out[0])
	step("pick -2", -2, sent)
	step("push", 0, did(api.DidPush))
	if !slices.Equal(drain(out[0]), []api.Msg{msg(30, 4)}) || x.Left() != 0 || !slices.Equal(x.Offsets(), []int{0, 0, 2, 1}) {
		t.Error("the last record", x.Left(), x.Offsets())
	}
	step("nothing is left", math.MinInt, did(api.DidNothing))
	x.Trigger(11, true)
	step("a trigger at the end", 0, acked(11, 0, 0, 2, 1))
}

// P22.2: from which link a message is taken, and what becomes of records and barriers.
func TestReceive(t *testing.T) {
	s := api.Spec{Groups: 8, Ops: []api.Op{source(4, 1), op(api.FlatMap, 5, api.Fn{A: 3, B: 100}, 0), op(api.Sink, 1, api.Fn{}, 1), op(api.Sink, 1, api.Fn{}, 1)}}
	par := []int{3, 2, 1, 2}
	x := task.New(s, par, api.Spot{Op: 1, Task: 1}, nil, nil, nil)
	key := 0
	for group.Owner(group.Of(key, 8), 2, 8) != 1 {
		key++
	}
	in, out := links(3, 8), links(3, 20)
	to := []api.Spot{{Op: 2}, {Op: 3}, {Op: 3, Task: 1}}
	step := func(name string, pick int, want api.Did) {
		t.Helper()
		same(t, name, x.Step(in, out, to, pick), want)
	}
	push := func(n int) {
		t.Helper()
		if x.Waits() != n {
			t.Error("Waits", x.Waits(), "want", n)
		}
		for range n {
			step("push", 0, did(api.DidPush))
		}
	}
	made := api.Did{Kind: api.DidRec, Out: 3, Busy: 5}
	step("empty links", 0, did(api.DidNothing))
	in[0].Push(msg(key, 1))
	in[2].Push(msg(key, 2))
	step("pick 1: link 2", 1, made)
	push(6)
	want := []api.Msg{msg(key, 2), msg(key, 102), msg(key, 202)}
	if !slices.Equal(drain(out[0]), want) || len(drain(out[1])) != 0 || !slices.Equal(drain(out[2]), want) {
		t.Error("what was sent")
	}
	in[1].Push(barrier(4))
	in[1].Push(msg(key, 9))
	step("pick -2: link 1", -2, did(api.DidBarrier))
	step("pick 1: link 1 is blocked, link 2 empty", 1, made)
	push(6)
	step("all others are empty", 1, did(api.DidNothing))
	in[0].Push(barrier(4))
	in[2].Push(msg(key, 3))
	step("a second barrier", 0, did(api.DidBarrier))
	step("link 2 alone", 0, made)
	push(6)
	in[2].Push(barrier(4))
	step("the last barrier", 0, api.Did{Kind: api.DidBarrier, Acked: true, Ack: api.Ack{No: 4, Task: 4}})
	push(3)
	for i, l := range out {
		if m := drain(l); len(m) == 0 || m[len(m)-1] != barrier(4) {
			t.Error("the barrier on link", i, m)
		}
	}
	step("link 1 isn't blocked any more", 1, made)
	x.Trigger(5, true)
	x.Resume()
	x.Commit(4)
	push(6)
	step("a trigger of no source", 0, did(api.DidNothing))
}

// P22.2: a task with a number above those that it has.
func TestPickRound(t *testing.T) {
	s := single(op(api.Map, 1, api.Fn{Op: api.FAdd}), 4)
	for _, x := range []struct{ pick, first int }{{0, 0}, {1, 1}, {2, 2}, {3, 0}, {-1, 2}, {-3, 0}, {math.MinInt, 1}, {math.MaxInt, 1}} {
		y := task.New(s, []int{3, 1, 1}, api.Spot{Op: 1}, nil, nil, nil)
		in := links(3, 2)
		for i, l := range in {
			l.Push(msg(1, i))
		}
		y.Step(in, links(1, 9), []api.Spot{{Op: 2}}, x.pick)
		for i, l := range in {
			if (l.Len() == 0) != (i == x.first) {
				t.Error("pick", x.pick, "took from link", i)
			}
		}
	}
}

// P22.2, P22.3: a sink's task.
func TestSink(t *testing.T) {
	s := single(op(api.Map, 1, api.Fn{Op: api.FAdd}), 1)
	x := task.New(s, []int{1, 2, 2}, api.Spot{Op: 2, Task: 1}, nil, nil, nil)
	in := links(2, 8)
	step := func(name string, want api.Did) {
		t.Helper()
		same(t, name, x.Step(in, nil, nil, 0), want)
	}
	cut := func(no int, outs ...api.Rec) {
		t.Helper()
		in[0].Push(barrier(no))
		in[1].Push(barrier(no))
		step("a barrier", did(api.DidBarrier))
		step("a complete one", api.Did{Kind: api.DidBarrier, Acked: true, Ack: api.Ack{No: no, Task: 4, Outs: outs}})
	}
	take := func(val int) {
		t.Helper()
		in[val%2].Push(msg(1, val))
		step("a record", api.Did{Kind: api.DidRec, Busy: 9})
	}
	take(1)
	take(2)
	cut(3, rec(1, 1), rec(1, 2))
	take(3)
	cut(4, rec(1, 1), rec(1, 2), rec(1, 3))
	x.Commit(3)
	take(4)
	cut(6, rec(1, 3), rec(1, 4))
	x.Commit(6)
	cut(7)
	if x.Waits() != 0 || len(x.Rows()) != 0 {
		t.Error("a sink sends, or has rows")
	}
}

// P22.2: states in the ack of a Fold.
func TestFold(t *testing.T) {
	s := single(op(api.Fold, 2, api.Fn{Op: api.FSum}), 1)
	x := task.New(s, []int{1, 1, 1}, api.Spot{Op: 1}, nil, nil, []api.Row{{Key: 5, Cell: api.Cell{Acc: 100, N: 2}}})
	in, out, to := links(1, 8), links(1, 8), []api.Spot{{Op: 2}}
	in[0].Push(msg(5, 1))
	in[0].Push(msg(6, 7))
	in[0].Push(barrier(2))
	in[0].Push(msg(5, 1))
	for range 5 {
		x.Step(in, out, to, 0)
	}
	tab := table.New(8)
	tab.Lay([]api.Row{{Key: 5, Cell: api.Cell{Acc: 101, N: 3}}, {Key: 6, Cell: api.Cell{Acc: 7, N: 1}}})
	if x.Waits() != 1 || !slices.Equal(drain(out[0]), []api.Msg{msg(5, 101), msg(6, 7)}) || !slices.Equal(x.Rows(), tab.Rows()) {
		t.Error("two records, and a barrier", x.Waits(), x.Rows())
	}
	y := task.New(s, []int{1, 1, 1}, api.Spot{Op: 1}, nil, nil, tab.Rows())
	in[0] = link.New(3)
	in[0].Push(barrier(3))
	same(t, "its ack", y.Step(in, out, to, 0), api.Did{Kind: api.DidBarrier, Acked: true, Ack: api.Ack{No: 3, Task: 1, Rows: tab.Rows()}})
}

// node is a task with links of its own; the test takes messages from one task's links to another's.
type node struct {
	task    *task.Task
	spot    api.Spot
	in, out []*link.Link
	ins     []int // numbers of the edges
	outs    []int
	to      []api.Spot
	acks    []api.Ack
}

// net is all tasks of a job, and what went over each edge.
type net struct {
	s     api.Spec
	nodes []*node
	edges []api.Edge
	log   [][]api.Msg // that came in, by edges
	wire  []*link.Link
}

func newNet(s api.Spec, par []int, parts map[int][][]api.Rec, r *rand.Rand) *net {
	n := &net{s: s, edges: graph.Edges(s, par)}
	n.log = make([][]api.Msg, len(n.edges))
	n.wire = make([]*link.Link, len(n.edges))
	spots := graph.Tasks(par)
	for i, spot := range spots {
		x := &node{spot: spot, ins: graph.Ins(n.edges, i), outs: graph.Outs(n.edges, i)}
		for _, e := range x.ins {
			l := link.New(1 + r.Intn(3))
			x.in = append(x.in, l)
			n.wire[e] = l
		}
		for _, e := range x.outs {
			x.out = append(x.out, link.New(1+r.Intn(3)))
			x.to = append(x.to, spots[n.edges[e].To])
		}
		x.task = task.New(s, par, spot, parts[spot.Op], make([]int, s.Ops[spot.Op].Parts), nil)
		n.nodes = append(n.nodes, x)
	}
	return n
}

// carry takes a message from each of a task's links on, where there is room.
func (n *net) carry(x *node) {
	for i, e := range x.outs {
		if n.wire[e].Room() == 0 {
			continue
		}
		if m, ok := x.out[i].Pop(); ok {
			n.log[e] = append(n.log[e], m)
			n.wire[e].Push(m)
		}
	}
}

// ahead is the records of a link ahead of a barrier.
func ahead(l []api.Msg, no int) ([]api.Rec, bool) {
	var out []api.Rec
	for _, m := range l {
		if m.Kind == api.MBarrier && m.No == no {
			return out, true
		}
		if m.Kind == api.MRec {
			out = append(out, m.Rec)
		}
	}
	return nil, false
}

// byKey is records' values, by keys.
func byKey(l []api.Rec) map[int][]int {
	m := map[int][]int{}
	for _, r := range l {
		m[r.Key] = append(m[r.Key], r.Val)
	}
	return m
}

// checkCut checks what a task acknowledged against what went over its links ahead of the barrier.
func (n *net) checkCut(t *testing.T, x *node, a api.Ack, par []int, took map[int][]int) {
	t.Helper()
	var came []api.Rec
	for _, e := range x.ins {
		l, ok := ahead(n.log[e], a.No)
		if !ok {
			t.Fatal("a barrier isn't complete", x.spot, a.No)
		}
		came = append(came, l...)
	}
	o := n.s.Ops[x.spot.Op]
	sent := map[int][]int{}
	switch o.Kind {
	case api.Source:
		for p, at := range a.Offsets {
			for _, r := range partsOf(x.spot.Op)[p][:at] {
				sent[r.Key] = append(sent[r.Key], r.Val)
			}
		}
	case api.Fold:
		tab := table.New(n.s.Groups)
		for k, l := range byKey(came) {
			sum := 0
			for _, v := range l {
				sum += v
				sent[k] = append(sent[k], sum)
			}
			tab.Put(k, api.Cell{Acc: sum, N: len(l)})
		}
		if !slices.Equal(a.Rows, tab.Rows()) {
			t.Fatal("the states aren't those ahead of the barrier", x.spot, a.Rows, tab.Rows())
		}
	case api.Sink:
		for k, l := range byKey(a.Outs) {
			took[k] = append(took[k], l...)
		}
		for k, l := range byKey(came) {
			if !slices.Equal(took[k], l) {
				t.Fatal("a sink's records", x.spot, took[k], l)
			}
		}
		return
	default:
		sent = byKey(came)
	}
	for i, e := range x.outs {
		got, ok := ahead(n.log[e], a.No)
		if !ok {
			continue // the barrier is still on its way
		}
		want := map[int][]int{}
		for k, l := range sent {
			if slices.Contains(route.Targets(n.s, par, x.spot.Op, k), x.to[i]) {
				want[k] = l
			}
		}
		have := byKey(got)
		for k := range 30 {
			if !slices.Equal(have[k], want[k]) {
				t.Fatal("ahead of the barrier on a link out", x.spot, x.to[i], k, have[k], want[k])
			}
		}
	}
}

// partsOf is the input of the net's sources: keys 0 to 11 of the first one, 12 to 19 of the second.
func partsOf(op int) [][]api.Rec {
	l := make([][]api.Rec, 4)
	for i := range 60 {
		k := i % 12
		if op != 0 {
			k = 12 + i%8
		}
		l[k%4] = append(l[k%4], rec(k, i))
	}
	return l
}

// P22.5
func TestConsistentCut(t *testing.T) {
	r := rand.New(rand.NewSource(22))
	s := api.Spec{Groups: 16, Ops: []api.Op{source(4, 1), source(4, 1), op(api.Fold, 1, api.Fn{Op: api.FSum}, 0), op(api.Union, 1, api.Fn{}, 2, 1), op(api.Sink, 1, api.Fn{}, 3), op(api.Sink, 1, api.Fn{}, 0)}}
	if spec.Check(s) != api.OK {
		t.Fatal("the job is wrong")
	}
	for range 60 {
		par := []int{1 + r.Intn(4), 1 + r.Intn(4), 1 + r.Intn(4), 1 + r.Intn(4), 1 + r.Intn(3), 1 + r.Intn(3)}
		n := newNet(s, par, map[int][][]api.Rec{0: partsOf(0), 1: partsOf(1)}, r)
		no, idle, acks := 0, 0, 0
		for idle < 30*len(n.nodes) {
			if r.Intn(40*len(n.nodes)) == 0 {
				no += 1 + r.Intn(2)
				for _, x := range n.nodes {
					x.task.Trigger(no, false)
				}
			}
			x := n.nodes[r.Intn(len(n.nodes))]
			d := x.task.Step(x.in, x.out, x.to, r.Intn(20))
			if d.Acked {
				x.acks = append(x.acks, d.Ack)
				acks++
				x.task.Commit(d.Ack.No) // what a sink cut is committed at once
			}
			n.carry(n.nodes[r.Intn(len(n.nodes))])
			idle++
			if d.Kind != api.DidNothing {
				idle = 0
			}
		}
		for i, x := range n.nodes {
			took, last := map[int][]int{}, -1
			for _, a := range x.acks {
				if a.Task != i || a.No <= last {
					t.Fatal("an ack's task, or number", a.Task, a.No)
				}
				last = a.No
				n.checkCut(t, x, a, par, took)
			}
			if len(x.acks) != acks/len(n.nodes) || x.task.Waits() != 0 {
				t.Fatal("a task lacks acks", len(x.acks), acks)
			}
		}
	}
}

// R3
func TestMemory(t *testing.T) {
	s := single(op(api.Fold, 2, api.Fn{Op: api.FSum}), 2)
	par, parts, offsets := []int{1, 2, 1}, [][]api.Rec{{rec(1, 5)}, {rec(2, 6)}}, []int{0, 0}
	x := task.New(s, par, api.Spot{}, parts, offsets, nil)
	to := []api.Spot{{Op: 1}, {Op: 1, Task: 1}}
	want := group.Owner(group.Of(1, 8), 2, 8)
	s.Ops[1].In[0] = 2
	s.Ops[1].Kind = api.Map
	par[1] = 1
	parts[0][0] = rec(9, 9)
	offsets[1] = 7
	out := links(2, 8)
	x.Step(nil, out, to, 0)
	x.Step(nil, out, to, 0)
	x.Offsets()[0] = 77
	if !slices.Equal(drain(out[want]), []api.Msg{msg(1, 5)}) || !slices.Equal(x.Offsets(), []int{1, 0}) {
		t.Error("an argument was kept, or an answer shares memory", x.Offsets())
	}
}

func TestExamples(t *testing.T) {
	s := api.Spec{Groups: 4, Ops: []api.Op{source(1, 1), op(api.Sink, 1, api.Fn{}, 0)}}
	for _, most := range []int{1, 8} {
		x := task.New(s, []int{1, 1}, api.Spot{}, [][]api.Rec{{rec(1, 5), rec(1, 6)}}, []int{0}, nil)
		out, to := links(1, most), []api.Spot{{Op: 1}}
		step := func() api.Did { return x.Step(nil, out, to, 0) }
		for i, want := range []int{api.DidRec, api.DidPush, api.DidRec} {
			if got := step().Kind; got != want {
				t.Error("step", i, got)
			}
		}
		x.Trigger(3, false)
		if most == 1 {
			same(t, "full", step(), did(api.DidWait))
			out[0].Pop()
		}
		same(t, "push", step(), did(api.DidPush))
		same(t, "barrier", step(), api.Did{Kind: api.DidBarrier, Acked: true, Ack: api.Ack{No: 3, Offsets: []int{2}}})
		if most == 1 {
			out[0].Pop()
		}
		same(t, "push", step(), did(api.DidPush))
	}
}
