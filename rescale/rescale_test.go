package rescale_test

import (
	"cmp"
	"math"
	"math/rand"
	"reflect"
	"slices"
	"testing"

	"oxbow/api"
	"oxbow/group"
	"oxbow/moves"
	"oxbow/rescale"
	"oxbow/spec"
)

func op(kind int, f api.Fn, in ...int) api.Op { return api.Op{Kind: kind, Fn: f, In: in, Cost: 1} }

// job is a source, a Window of it, a Map of that, a Fold of that, and a sink, in another order.
func job(groups int) api.Spec {
	return api.Spec{Groups: groups, Ops: []api.Op{
		op(api.Sink, api.Fn{}, 2), {Kind: api.Source, Parts: 3, Rate: 1, Cost: 1}, op(api.Fold, api.Fn{Op: api.FSum}, 3), op(api.Map, api.Fn{Op: api.FAdd}, 4), op(api.Window, api.Fn{Op: api.FSum, A: 5}, 1),
	}}
}

func row(key, acc, n int) api.Row { return api.Row{Key: key, Cell: api.Cell{Acc: acc, N: n}} }

func anyRows(r *rand.Rand) []api.Row {
	var l []api.Row
	for range r.Intn(30) {
		l = append(l, row(r.Intn(40)-20, r.Intn(3), r.Intn(2)))
	}
	return l
}

// states is what rows stand for: of each key the last one, if it isn't zero; in order.
func states(l []api.Row, groups int) []api.Row {
	last := map[int]api.Cell{}
	for _, x := range l {
		last[x.Key] = x.Cell
	}
	var out []api.Row
	for k, c := range last {
		if c != (api.Cell{}) {
			out = append(out, api.Row{Key: k, Cell: c})
		}
	}
	slices.SortFunc(out, func(a, b api.Row) int {
		return cmp.Or(cmp.Compare(group.Of(a.Key, groups), group.Of(b.Key, groups)), cmp.Compare(a.Key, b.Key))
	})
	return out
}

func anyPar(r *rand.Rand, groups int) []int {
	par := make([]int, 5)
	for i := range par {
		par[i] = 1 + r.Intn(min(groups, api.MaxPar))
	}
	return par
}

func anyManifest(r *rand.Rand, groups int) api.Manifest {
	m := api.Manifest{No: r.Intn(100), Par: anyPar(r, groups), Offsets: [][]int{nil, {1, r.Intn(5), 3}, nil, nil, nil}, Outs: [][]api.Rec{{{Key: 1, Val: 2}}}}
	m.Rows = [][]api.Row{nil, anyRows(r), anyRows(r), anyRows(r), anyRows(r)}[:r.Intn(6)]
	return m
}

// planned is how many moves there should be.
func planned(s api.Spec, old, par []int) int {
	n := 0
	for i, o := range s.Ops {
		if o.Kind == api.Fold || o.Kind == api.Window {
			n += len(moves.Plan(old[i], par[i], s.Groups))
		}
	}
	return n
}

func rowsOf(m api.Manifest, op int) []api.Row {
	if op < len(m.Rows) {
		return m.Rows[op]
	}
	return nil
}

// finish does all moves, and answers the checkpoint.
func finish(t *testing.T, x *rescale.Run, moves int) api.Manifest {
	t.Helper()
	for left := moves; left > 0; left-- {
		if x.Left() != left {
			t.Fatal("Left", x.Left(), "want", left)
		}
		if m, is := x.Manifest(); is || !reflect.DeepEqual(m, api.Manifest{}) {
			t.Fatal("a checkpoint while moves are left", m)
		}
		if !x.Step() {
			t.Fatal("Step tells that none is left, of", left)
		}
	}
	if x.Left() != 0 || x.Step() || x.Step() {
		t.Fatal("a move is left")
	}
	m, is := x.Manifest()
	if !is {
		t.Fatal("no checkpoint")
	}
	return m
}

// P29.1 to P29.4
func TestAnyRescale(t *testing.T) {
	r := rand.New(rand.NewSource(29))
	for range 2000 {
		groups := 1 + r.Intn(20)
		s := job(groups)
		if no := spec.Check(s); no != api.OK {
			t.Fatal("the test's job is wrong", no)
		}
		m, par := anyManifest(r, groups), anyPar(r, groups)
		if r.Intn(5) == 0 {
			par = slices.Clone(m.Par)
		}
		got := finish(t, rescale.New(s, m, par), planned(s, m.Par, par))
		if got.No != m.No+1 || !slices.Equal(got.Par, par) || len(got.Outs) != 0 || len(got.Rows) != len(s.Ops) || !slices.EqualFunc(got.Offsets, m.Offsets, slices.Equal[[]int]) {
			t.Fatal("the checkpoint", got, "of", m)
		}
		for i := range s.Ops {
			var want []api.Row
			if i == 2 || i == 4 {
				want = states(rowsOf(m, i), groups)
			}
			if !slices.Equal(got.Rows[i], want) {
				t.Fatal("Rows", i, got.Rows[i], "want", want)
			}
		}
		back := finish(t, rescale.New(s, got, m.Par), planned(s, par, m.Par))
		if back.No != m.No+2 || !slices.Equal(back.Par, m.Par) || !slices.EqualFunc(back.Rows, got.Rows, slices.Equal[[]api.Row]) {
			t.Fatal("there and back", back, got)
		}
	}
}

// P29.1: the moves of all operators with states, and of these alone.
func TestMoves(t *testing.T) {
	s := job(8)
	for _, x := range []struct {
		old, par []int
		left     int
	}{
		{[]int{1, 1, 1, 1, 1}, []int{1, 1, 1, 1, 1}, 0},
		{[]int{1, 1, 1, 1, 1}, []int{8, 3, 1, 8, 1}, 0},
		{[]int{1, 1, 1, 1, 1}, []int{1, 1, 2, 1, 1}, 1},
		{[]int{1, 1, 1, 1, 1}, []int{1, 1, 2, 1, 3}, 3},
		{[]int{1, 1, 8, 1, 8}, []int{1, 1, 1, 1, 1}, 14},
	} {
		r := rescale.New(s, api.Manifest{Par: x.old}, x.par)
		if r.Left() != x.left {
			t.Error(x, r.Left())
		}
		finish(t, r, x.left)
	}
}

// P29.3: the number behind the greatest one wraps around.
func TestNo(t *testing.T) {
	m, is := rescale.New(job(1), api.Manifest{No: math.MaxInt, Par: []int{1, 1, 1, 1, 1}}, []int{1, 1, 1, 1, 1}).Manifest()
	if !is || m.No != math.MinInt {
		t.Error(m, is)
	}
}

// R3
func TestMemory(t *testing.T) {
	s := job(4)
	m := api.Manifest{No: 1, Par: []int{1, 1, 1, 1, 1}, Offsets: [][]int{nil, {1, 2, 3}}, Rows: [][]api.Row{nil, nil, {row(5, 6, 1)}}}
	par := []int{1, 1, 1, 1, 1}
	x := rescale.New(s, m, par)
	m.Par[2], m.Offsets[1][0], m.Rows[2][0], par[2] = 3, 99, row(9, 9, 9), 2
	a, _ := x.Manifest()
	if !slices.Equal(a.Par, []int{1, 1, 1, 1, 1}) || !slices.Equal(a.Offsets[1], []int{1, 2, 3}) || !slices.Equal(a.Rows[2], []api.Row{row(5, 6, 1)}) {
		t.Error("an argument was kept", a)
	}
	a.Par[2], a.Offsets[1][0], a.Rows[2][0] = 7, 98, row(8, 8, 8)
	b, _ := x.Manifest()
	if b.Par[2] != 1 || b.Offsets[1][0] != 1 || b.Rows[2][0] != row(5, 6, 1) {
		t.Error("an answer shares memory", b)
	}
}

func TestExamples(t *testing.T) {
	s := api.Spec{Groups: 4, Ops: []api.Op{{Kind: api.Source, Parts: 1, Rate: 1, Cost: 1}, op(api.Fold, api.Fn{Op: api.FSum}, 0), op(api.Sink, api.Fn{}, 1)}}
	rows := states([]api.Row{row(1, 5, 1), row(2, 6, 1), row(3, 7, 2), row(4, 8, 1), row(5, 9, 1)}, 4)
	x := rescale.New(s, api.Manifest{No: 6, Par: []int{1, 1, 1}, Offsets: [][]int{{5}}, Rows: [][]api.Row{nil, rows}}, []int{1, 2, 1})
	if _, is := x.Manifest(); x.Left() != 1 || is || !x.Step() || x.Step() {
		t.Error("the moves")
	}
	m, is := x.Manifest()
	if !is || m.No != 7 || !slices.Equal(m.Par, []int{1, 2, 1}) || !slices.Equal(m.Rows[1], rows) || !slices.Equal(m.Offsets[0], []int{5}) {
		t.Error(m, is)
	}
}
