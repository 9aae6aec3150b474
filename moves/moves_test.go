package moves_test

import (
	"math"
	"slices"
	"testing"

	"oxbow/api"
	"oxbow/group"
	"oxbow/moves"
)

// plan is the chapter's, once more: the groups one by one.
func plan(old, par, groups int) []api.Move {
	var l []api.Move
	for g := range groups {
		m := api.Move{From: group.Owner(g, old, groups), To: group.Owner(g, par, groups), Lo: g, Hi: g + 1}
		if m.From == m.To {
			continue
		}
		if n := len(l); n > 0 && l[n-1].Hi == g && l[n-1].From == m.From && l[n-1].To == m.To {
			l[n-1].Hi++
			continue
		}
		l = append(l, m)
	}
	return l
}

// apply lets moves go, from the owners on; a group must be where the move says.
func apply(t *testing.T, owner []int, l []api.Move) {
	t.Helper()
	for _, m := range l {
		if m.Hi <= m.Lo {
			t.Fatal("an empty run", m)
		}
		for g := m.Lo; g < m.Hi; g++ {
			if owner[g] != m.From {
				t.Fatal("group", g, "isn't at", m.From, l)
			}
			owner[g] = m.To
		}
	}
}

// P9.1, P9.2, P9.3
func TestAllPlans(t *testing.T) {
	for groups := 1; groups <= 64; groups++ {
		for old := 1; old <= groups; old++ {
			for par := 1; par <= groups; par++ {
				l := moves.Plan(old, par, groups)
				if !slices.Equal(l, plan(old, par, groups)) {
					t.Fatal("Plan", old, par, groups, l)
				}
				if len(l) > old+par-1 || old == par && len(l) != 0 {
					t.Fatal("too many runs", old, par, groups, l)
				}
				if groups%7 != 1 {
					continue
				}
				owner := make([]int, groups)
				for g := range owner {
					owner[g] = group.Owner(g, old, groups)
				}
				before := slices.Clone(owner)
				apply(t, owner, l)
				for g, o := range owner {
					if o != group.Owner(g, par, groups) {
						t.Fatal("group", g, "has the owner", o, old, par, groups)
					}
				}
				apply(t, owner, moves.Plan(par, old, groups))
				if !slices.Equal(owner, before) {
					t.Fatal("there and back", old, par, groups)
				}
			}
		}
	}
}

// P9.1: what isn't valid.
func TestNoMoves(t *testing.T) {
	for _, x := range [][3]int{{0, 1, 4}, {1, 0, 4}, {-1, 2, 4}, {2, -1, 4}, {1, 5, 4}, {5, 1, 4}, {1, 2, 65}, {1, 2, 0}, {1, 2, -4}, {1, 65, 65}, {math.MaxInt, 1, math.MaxInt}, {1, math.MinInt, 4}, {1, 2, math.MinInt}} {
		if l := moves.Plan(x[0], x[1], x[2]); len(l) != 0 {
			t.Error(x, l)
		}
	}
}

func TestExamples(t *testing.T) {
	if l := moves.Plan(1, 2, 4); !slices.Equal(l, []api.Move{{From: 0, To: 1, Lo: 2, Hi: 4}}) {
		t.Error(l)
	}
	if l := moves.Plan(2, 3, 6); !slices.Equal(l, []api.Move{{From: 0, To: 1, Lo: 2, Hi: 3}, {From: 1, To: 2, Lo: 4, Hi: 6}}) {
		t.Error(l)
	}
	if l := moves.Plan(3, 3, 6); len(l) != 0 {
		t.Error(l)
	}
}
