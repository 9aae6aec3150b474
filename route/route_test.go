package route_test

import (
	"math/rand"
	"slices"
	"testing"

	"oxbow/api"
	"oxbow/group"
	"oxbow/route"
)

func op(kind int, in ...int) api.Op {
	o := api.Op{Kind: kind, In: in, Cost: 1}
	if kind == api.Source {
		o.Parts, o.Rate = 8, 1
	}
	if kind == api.Map {
		o.Fn.Op = api.FAdd
	}
	return o
}

// job is: 0, a sink of 3; 1, a source; 2, a Map of 1; 3, a Union of 2 and 6; 4, a sink of 1; 5, a sink of 3; 6, a source; 7, a Map of 1 of which 8 is a sink.
func job(groups int) api.Spec {
	return api.Spec{Groups: groups, Ops: []api.Op{op(api.Sink, 3), op(api.Source), op(api.Map, 1), op(api.Union, 2, 6), op(api.Sink, 1), op(api.Sink, 3), op(api.Source), op(api.Map, 1), op(api.Sink, 7)}}
}

// users is who has each operator as an input.
var users = [][]int{nil, {2, 4, 7}, {3}, {0, 5}, nil, nil, {3}, {8}, nil}

// P20.1, P20.2
func TestTargets(t *testing.T) {
	r := rand.New(rand.NewSource(20))
	for range 500 {
		s := job(1 + r.Intn(64))
		par := make([]int, len(s.Ops))
		for i := range par {
			par[i] = 1 + r.Intn(min(s.Groups, api.MaxPar))
		}
		for op := range s.Ops {
			for _, key := range []int{r.Intn(100), int(r.Uint64()), -r.Intn(100)} {
				var want []api.Spot
				for _, u := range users[op] {
					want = append(want, api.Spot{Op: u, Task: group.Owner(group.Of(key, s.Groups), par[u], s.Groups)})
				}
				got := route.Targets(s, par, op, key)
				if !slices.Equal(got, want) {
					t.Fatal("Targets", par, op, key, got, "want", want)
				}
				if !slices.Equal(route.Targets(s, par, op, key), got) {
					t.Fatal("other targets of the same key", op, key)
				}
			}
		}
	}
}

// P20.2: a single task is task 0; a sink has no targets; all tasks get some keys.
func TestOneTask(t *testing.T) {
	s := job(64)
	par := []int{1, 8, 1, 8, 1, 1, 1, 8, 1}
	seen := map[api.Spot]int{}
	for key := range 1000 {
		for _, spot := range route.Targets(s, par, 1, key) {
			seen[spot]++
			if par[spot.Op] == 1 && spot.Task != 0 {
				t.Fatal("a task that there isn't", spot)
			}
		}
		if len(route.Targets(s, par, 0, key)) != 0 || len(route.Targets(s, par, 4, key)) != 0 {
			t.Fatal("targets of a sink")
		}
	}
	if len(seen) != 1+1+8 {
		t.Error("not all tasks get keys", seen)
	}
}

// R3
func TestMemory(t *testing.T) {
	s, par := job(8), []int{2, 2, 2, 2, 2, 2, 2, 2, 2}
	a := route.Targets(s, par, 1, 5)
	keep := slices.Clone(a)
	a[0].Op = 99
	if !slices.Equal(route.Targets(s, par, 1, 5), keep) || par[0] != 2 {
		t.Error("memory is shared")
	}
}

func TestExamples(t *testing.T) {
	s := api.Spec{Groups: 8, Ops: []api.Op{op(api.Source), op(api.Map, 0), op(api.Sink, 0)}}
	key := 0
	for group.Of(key, 8) != 5 {
		key++
	}
	par := []int{1, 4, 1}
	if got := route.Targets(s, par, 0, key); !slices.Equal(got, []api.Spot{{Op: 1, Task: 2}, {Op: 2, Task: 0}}) {
		t.Error("Targets of 0", got)
	}
	if got := route.Targets(s, par, 2, key); len(got) != 0 {
		t.Error("Targets of 2", got)
	}
}
