package graph_test

import (
	"math"
	"math/rand"
	"slices"
	"testing"

	"oxbow/api"
	"oxbow/graph"
)

func op(kind int, in ...int) api.Op {
	o := api.Op{Kind: kind, In: in, Cost: 1}
	if kind == api.Source {
		o.Parts, o.Rate = 8, 1
	}
	if kind == api.Map {
		o.Fn.Op = api.FAdd
	}
	return o
}

// job is a job with inputs in other orders than that of their numbers.
func job() api.Spec {
	return api.Spec{Groups: 8, Ops: []api.Op{op(api.Sink, 3), op(api.Source), op(api.Map, 1), op(api.Union, 6, 2), op(api.Sink, 1), op(api.Sink, 3), op(api.Source)}}
}

func anyPar(r *rand.Rand, n, least int) []int {
	par := make([]int, n)
	for i := range par {
		par[i] = least + r.Intn(api.MaxPar+1-least)
	}
	return par
}

// spots is all tasks, in order.
func spots(par []int) []api.Spot {
	var l []api.Spot
	for op, n := range par {
		for task := 0; task < n; task++ {
			l = append(l, api.Spot{Op: op, Task: task})
		}
	}
	return l
}

// P21.1
func TestTasks(t *testing.T) {
	r := rand.New(rand.NewSource(21))
	pars := [][]int{nil, {0}, {1}, {-1, 2}, {2, 0, 1}, {math.MinInt, 0, -5}, slices.Repeat([]int{8}, 12)}
	for range 300 {
		pars = append(pars, anyPar(r, r.Intn(13), -2))
	}
	for _, par := range pars {
		want := spots(par)
		if got := graph.Tasks(par); !slices.Equal(got, want) {
			t.Fatal("Tasks", par, got)
		}
		for op := -1; op <= len(par); op++ {
			for task := -1; task <= api.MaxPar; task++ {
				spot := api.Spot{Op: op, Task: task}
				if got := graph.Index(par, spot); got != slices.Index(want, spot) {
					t.Fatal("Index", par, spot, got)
				}
			}
		}
		for _, spot := range []api.Spot{{Op: math.MaxInt}, {Op: math.MinInt}, {Task: math.MaxInt}, {Task: math.MinInt}} {
			if got := graph.Index(par, spot); got != -1 {
				t.Fatal("Index of no task", spot, got)
			}
		}
	}
}

// edges is the chapter's, once more.
func edges(s api.Spec, par []int) []api.Edge {
	all := spots(par)
	var l []api.Edge
	for op, o := range s.Ops {
		for task := 0; task < par[op]; task++ {
			for _, in := range o.In {
				for from := 0; from < par[in]; from++ {
					l = append(l, api.Edge{From: slices.Index(all, api.Spot{Op: in, Task: from}), To: slices.Index(all, api.Spot{Op: op, Task: task})})
				}
			}
		}
	}
	return l
}

// P21.2, P21.3, P21.4
func TestEdges(t *testing.T) {
	r := rand.New(rand.NewSource(22))
	s := job()
	for i := range 200 {
		par := anyPar(r, len(s.Ops), 1-i%3)
		l := graph.Edges(s, par)
		if !slices.Equal(l, edges(s, par)) {
			t.Fatal("Edges", par, l)
		}
		all := spots(par)
		count := map[api.Edge]int{}
		for _, e := range l {
			count[e]++
		}
		for from, a := range all {
			for to, b := range all {
				want := 0
				if slices.Contains(s.Ops[b.Op].In, a.Op) {
					want = 1
				}
				if count[api.Edge{From: from, To: to}] != want {
					t.Fatal("links from", a, "to", b, par)
				}
			}
		}
		checkSides(t, l, len(all))
	}
}

// checkSides checks Ins and Outs of each task, and of none.
func checkSides(t *testing.T, l []api.Edge, tasks int) {
	t.Helper()
	ins, outs := 0, 0
	for task := -1; task <= tasks; task++ {
		var in, out []int
		for i, e := range l {
			if e.To == task {
				in = append(in, i)
			}
			if e.From == task {
				out = append(out, i)
			}
		}
		if got := graph.Ins(l, task); !slices.Equal(got, in) {
			t.Fatal("Ins", task, got, in)
		}
		if got := graph.Outs(l, task); !slices.Equal(got, out) {
			t.Fatal("Outs", task, got, out)
		}
		ins, outs = ins+len(in), outs+len(out)
	}
	if ins != len(l) || outs != len(l) {
		t.Fatal("links that aren't in one Ins and one Outs", ins, outs, len(l))
	}
}

func TestExamples(t *testing.T) {
	par := []int{2, 0, 1}
	if got := graph.Tasks(par); !slices.Equal(got, []api.Spot{{Op: 0, Task: 0}, {Op: 0, Task: 1}, {Op: 2, Task: 0}}) {
		t.Error("Tasks", got)
	}
	if graph.Index(par, api.Spot{Op: 2}) != 2 || graph.Index(par, api.Spot{Op: 1}) != -1 {
		t.Error("Index")
	}
	s := api.Spec{Groups: 8, Ops: []api.Op{op(api.Source), op(api.Sink, 0)}}
	l := graph.Edges(s, []int{2, 2})
	if !slices.Equal(l, []api.Edge{{From: 0, To: 2}, {From: 1, To: 2}, {From: 0, To: 3}, {From: 1, To: 3}}) {
		t.Error("Edges", l)
	}
	if !slices.Equal(graph.Ins(l, 3), []int{2, 3}) || !slices.Equal(graph.Outs(l, 0), []int{0, 2}) {
		t.Error("Ins, Outs", graph.Ins(l, 3), graph.Outs(l, 0))
	}
}
