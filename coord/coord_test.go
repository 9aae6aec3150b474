package coord_test

import (
	"math"
	"math/rand"
	"reflect"
	"slices"
	"sort"
	"testing"

	"oxbow/api"
	"oxbow/coord"
	"oxbow/graph"
	"oxbow/group"
)

func rec(n int) api.Rec { return api.Rec{Key: n % 5, Val: n} }

func row(key, acc int) api.Row { return api.Row{Key: key, Cell: api.Cell{Acc: acc, N: 1}} }

func running(t *testing.T, c *coord.Coord, no int, stop bool, since int, is bool) {
	t.Helper()
	if a, b, s, ok := c.Running(); a != no || b != stop || s != since || ok != is {
		t.Error("Running", a, b, s, ok, "want", no, stop, since, is)
	}
}

// P24.1
func TestStartAndDrop(t *testing.T) {
	c := coord.New()
	running(t, c, 0, false, 0, false)
	c.Drop()
	c.Ack(api.Ack{})
	if c.Ready() {
		t.Error("ready without a checkpoint")
	}
	if no := c.Start(7, 2, true, 40); no != api.OK {
		t.Error("Start", no)
	}
	running(t, c, 7, true, 40, true)
	if no := c.Start(8, 3, false, 50); no != api.ErrState {
		t.Error("Start of a second one", no)
	}
	running(t, c, 7, true, 40, true)
	c.Ack(api.Ack{No: 7, Task: 0})
	c.Drop()
	running(t, c, 0, false, 0, false)
	if no := c.Start(-3, 1, false, 0); no != api.OK {
		t.Error("Start behind Drop", no)
	}
	running(t, c, -3, false, 0, true)
	if c.Ready() {
		t.Error("an ack of the one that was dropped counts")
	}
	c.Ack(api.Ack{No: -3})
	if !c.Ready() {
		t.Error("not ready")
	}
	c.Drop()
	if c.Ready() {
		t.Error("ready behind Drop")
	}
	if _, is := c.Manifest(api.Spec{}, nil); is {
		t.Error("a manifest behind Drop")
	}
	if no := c.Start(1, api.MaxOps*api.MaxGroups, false, 0); no != api.OK {
		t.Error("Start with 768 tasks", no)
	}
	for i := range api.MaxOps * api.MaxGroups {
		if c.Ready() {
			t.Error("ready with", i, "acks")
		}
		c.Ack(api.Ack{No: 1, Task: i})
	}
	if !c.Ready() {
		t.Error("not ready with 768 acks")
	}
}

// P24.2
func TestAcks(t *testing.T) {
	c := coord.New()
	c.Start(5, 3, false, 0)
	for _, a := range []api.Ack{{No: 4}, {No: 6, Task: 1}, {No: 5, Task: -1}, {No: 5, Task: 3}, {No: 5, Task: math.MaxInt}, {No: 5, Task: math.MinInt}, {No: 5, Task: 2}, {No: 5, Task: 2}, {No: 5, Task: 2}, {No: 5, Task: 0}} {
		c.Ack(a)
		if c.Ready() {
			t.Fatal("ready too early", a)
		}
	}
	c.Ack(api.Ack{No: 5, Task: 1})
	if !c.Ready() {
		t.Error("not ready")
	}
	running(t, c, 5, false, 0, true)
	if c.Start(6, 1, false, 0) != api.ErrState {
		t.Error("one that is ready isn't in progress any more")
	}
}

func op(kind int, in ...int) api.Op {
	o := api.Op{Kind: kind, In: in, Cost: 1}
	switch kind {
	case api.Source:
		o.Parts, o.Rate = 3, 1
	case api.Fold:
		o.Fn.Op = api.FSum
	case api.Window:
		o.Fn = api.Fn{Op: api.FSum, A: 2}
	case api.Map:
		o.Fn.Op = api.FAdd
	}
	return o
}

// job has operators of all kinds that matter here.
func job(groups int) api.Spec {
	return api.Spec{Groups: groups, Ops: []api.Op{op(api.Sink, 3), op(api.Source), op(api.Fold, 1), op(api.Window, 2), op(api.Map, 1), op(api.Sink, 4)}}
}

// anyAcks is acks of all tasks, each with all that it could tell, though its operator's kind gives it no meaning.
func anyAcks(r *rand.Rand, no, tasks int) []api.Ack {
	var l []api.Ack
	for i := range tasks {
		a := api.Ack{No: no, Task: i, Offsets: []int{r.Intn(4), r.Intn(3) - 1, r.Intn(9)}[:r.Intn(4)]}
		for range r.Intn(6) {
			a.Rows = append(a.Rows, row(r.Intn(12)-6, r.Intn(100)))
		}
		for range r.Intn(4) {
			a.Outs = append(a.Outs, rec(r.Intn(100)))
		}
		l = append(l, a)
	}
	return l
}

// manifest is what the chapter says that they make.
func manifest(s api.Spec, par []int, no int, acks []api.Ack) api.Manifest {
	m := api.Manifest{No: no, Par: par, Offsets: make([][]int, len(s.Ops)), Rows: make([][]api.Row, len(s.Ops)), Outs: make([][]api.Rec, len(s.Ops))}
	for i, spot := range graph.Tasks(par) {
		a, o := acks[i], spot.Op
		switch s.Ops[o].Kind {
		case api.Source:
			if m.Offsets[o] == nil {
				m.Offsets[o] = make([]int, s.Ops[o].Parts)
			}
			for p, at := range a.Offsets {
				m.Offsets[o][p] = max(m.Offsets[o][p], at)
			}
		case api.Fold, api.Window:
			m.Rows[o] = append(m.Rows[o], a.Rows...)
		case api.Sink:
			m.Outs[o] = append(m.Outs[o], a.Outs...)
		}
	}
	for _, l := range m.Rows {
		sort.SliceStable(l, func(i, j int) bool {
			a, b := group.Of(l[i].Key, s.Groups), group.Of(l[j].Key, s.Groups)
			return a < b || a == b && l[i].Key < l[j].Key
		})
	}
	return m
}

func like(a, b api.Manifest) bool {
	return a.No == b.No && slices.Equal(a.Par, b.Par) && slices.EqualFunc(a.Offsets, b.Offsets, slices.Equal[[]int]) && slices.EqualFunc(a.Rows, b.Rows, slices.Equal[[]api.Row]) && slices.EqualFunc(a.Outs, b.Outs, slices.Equal[[]api.Rec])
}

// P24.3, P24.4
func TestManifest(t *testing.T) {
	r := rand.New(rand.NewSource(24))
	for range 500 {
		s := job(3 + r.Intn(20))
		par := make([]int, len(s.Ops))
		for i := range par {
			par[i] = 1 + r.Intn(3)
		}
		tasks := len(graph.Tasks(par))
		no := 1 + r.Intn(9)
		acks := anyAcks(r, no, tasks)
		want := manifest(s, par, no, acks)
		c := coord.New()
		c.Start(no, tasks, r.Intn(2) == 0, 3)
		for _, i := range r.Perm(tasks) {
			if m, is := c.Manifest(s, par); is || !reflect.DeepEqual(m, api.Manifest{}) {
				t.Fatal("a manifest too early", m)
			}
			if r.Intn(3) == 0 { // what comes of others, or again, is nothing
				for _, a := range anyAcks(r, no+1-2*r.Intn(2), tasks) {
					c.Ack(a)
				}
			}
			c.Ack(acks[i])
			if r.Intn(3) == 0 {
				c.Ack(anyAcks(r, no, tasks)[i])
			}
		}
		for range 2 {
			m, is := c.Manifest(s, par)
			if !is || !like(m, want) {
				t.Fatal("Manifest", m, is, "want", want)
			}
		}
		par[r.Intn(len(par))]++
		if m, is := c.Manifest(s, par); is || !reflect.DeepEqual(m, api.Manifest{}) {
			t.Fatal("a manifest of too many tasks", m)
		}
	}
}

// P24.3: a par that has another number of tasks.
func TestOtherPar(t *testing.T) {
	s := api.Spec{Groups: 4, Ops: []api.Op{op(api.Source), op(api.Sink, 0)}}
	c := coord.New()
	c.Start(1, 3, false, 0)
	for i := range 3 {
		c.Ack(api.Ack{No: 1, Task: i})
	}
	for _, par := range [][]int{nil, {1, 1}, {3, 1}, {4, 4}} {
		if m, is := c.Manifest(s, par); is || !reflect.DeepEqual(m, api.Manifest{}) {
			t.Error(par, m, is)
		}
	}
	for _, par := range [][]int{{1, 2}, {2, 1}} {
		if m, is := c.Manifest(s, par); !is || !slices.Equal(m.Par, par) {
			t.Error(par, m, is)
		}
	}
}

// R3
func TestMemory(t *testing.T) {
	s := api.Spec{Groups: 4, Ops: []api.Op{op(api.Source), op(api.Fold, 0), op(api.Sink, 1)}}
	par := []int{1, 1, 1}
	c := coord.New()
	c.Start(1, 3, false, 0)
	a := api.Ack{No: 1, Offsets: []int{1, 2, 3}}
	b := api.Ack{No: 1, Task: 1, Rows: []api.Row{row(2, 1), row(1, 1), row(3, 1)}}
	o := api.Ack{No: 1, Task: 2, Outs: []api.Rec{rec(1), rec(2)}}
	keep := slices.Clone(b.Rows)
	c.Ack(a)
	c.Ack(b)
	c.Ack(o)
	want, _ := c.Manifest(s, par)
	if !slices.Equal(b.Rows, keep) {
		t.Error("an ack was changed", b.Rows)
	}
	a.Offsets[0], b.Rows[0], o.Outs[0] = 99, row(99, 9), rec(99)
	got, _ := c.Manifest(s, par)
	if !like(got, want) {
		t.Error("an ack was kept", got)
	}
	got.Par[0], got.Offsets[0][0], got.Rows[1][0], got.Outs[2][0] = 9, 99, row(99, 9), rec(99)
	if got, _ := c.Manifest(s, par); !like(got, want) || par[0] != 1 {
		t.Error("an answer shares memory", got)
	}
}

func TestExamples(t *testing.T) {
	c := coord.New()
	if c.Start(3, 2, false, 0) != api.OK || c.Start(4, 2, false, 0) != api.ErrState || c.Ready() {
		t.Error("Start")
	}
	running(t, c, 3, false, 0, true)
	c.Ack(api.Ack{No: 3})
	c.Ack(api.Ack{No: 4, Task: 1})
	if c.Ready() {
		t.Error("ready too early")
	}
	c.Ack(api.Ack{No: 3, Task: 1})
	if !c.Ready() {
		t.Error("not ready")
	}
	c.Drop()
	if c.Ready() || c.Start(5, 2, false, 0) != api.OK {
		t.Error("behind Drop")
	}
}
