package table_test

import (
	"math"
	"math/rand"
	"slices"
	"sort"
	"testing"

	"oxbow/api"
	"oxbow/group"
	"oxbow/table"
)

func row(key, acc, n int) api.Row { return api.Row{Key: key, Cell: api.Cell{Acc: acc, N: n}} }

// model is what a table should have.
type model map[int]api.Cell

func (m model) put(key int, c api.Cell) {
	m[key] = c
	if c.Acc == 0 && c.N == 0 {
		delete(m, key)
	}
}

// rows is the model's rows of the groups from lo up to ahead of hi, in order.
func (m model) rows(groups, lo, hi int) []api.Row {
	var l []api.Row
	for k, c := range m {
		if g := group.Of(k, groups); g >= lo && g < hi {
			l = append(l, api.Row{Key: k, Cell: c})
		}
	}
	sort.Slice(l, func(i, j int) bool {
		a, b := group.Of(l[i].Key, groups), group.Of(l[j].Key, groups)
		return a < b || a == b && l[i].Key < l[j].Key
	})
	return l
}

func check(t *testing.T, tab *table.Table, m model, groups int) {
	t.Helper()
	if got, want := tab.Rows(), m.rows(groups, 0, groups); !slices.Equal(got, want) {
		t.Fatal("Rows", got, "want", want)
	}
	if tab.Len() != len(m) {
		t.Fatal("Len", tab.Len(), "want", len(m))
	}
}

// P11.1, P11.2: any calls, against a model.
func TestAnyCalls(t *testing.T) {
	r := rand.New(rand.NewSource(11))
	cell := func() api.Cell { return api.Cell{Acc: r.Intn(3) - 1, N: r.Intn(2)} }
	for range 300 {
		groups := 1 + r.Intn(64)
		tab, m := table.New(groups), model{}
		key := func() int {
			if r.Intn(4) == 0 {
				return int(r.Uint64())
			}
			return r.Intn(60) - 30
		}
		check(t, tab, m, groups)
		for range 120 {
			k, c := key(), cell()
			switch r.Intn(5) {
			case 0, 1:
				tab.Put(k, c)
				m.put(k, c)
			case 2:
				if got := tab.Get(k); got != m[k] {
					t.Fatal("Get", k, got, m[k])
				}
			case 3:
				l := []api.Row{{Key: k, Cell: c}, {Key: key(), Cell: cell()}, {Key: k, Cell: cell()}}
				tab.Lay(l)
				for _, x := range l {
					m.put(x.Key, x.Cell)
				}
			case 4:
				lo := r.Intn(groups+4) - 2
				hi := lo + r.Intn(groups/4+3) - 1
				want := m.rows(groups, lo, hi)
				if got := tab.Cut(lo, hi); !slices.Equal(got, want) {
					t.Fatal("Cut", lo, hi, got, want)
				}
				for _, x := range want {
					delete(m, x.Key)
					if tab.Get(x.Key) != (api.Cell{}) {
						t.Fatal("a key that was cut has a state", x)
					}
				}
			}
		}
		check(t, tab, m, groups)
	}
}

// P11.1: which cells are none.
func TestZeroCell(t *testing.T) {
	tab := table.New(8)
	tab.Put(1, api.Cell{})
	if tab.Len() != 0 || len(tab.Rows()) != 0 {
		t.Error("a zero cell is a state")
	}
	for _, c := range []api.Cell{{Acc: 1}, {N: 1}, {Acc: -1, N: -1}} {
		tab.Put(1, c)
		if tab.Len() != 1 || tab.Get(1) != c || !slices.Equal(tab.Rows(), []api.Row{{Key: 1, Cell: c}}) {
			t.Error(c, "is no state")
		}
	}
	tab.Lay([]api.Row{row(2, 3, 4), row(1, 0, 0), row(2, 5, 6)})
	if !slices.Equal(tab.Rows(), []api.Row{row(2, 5, 6)}) || tab.Get(2) != (api.Cell{Acc: 5, N: 6}) {
		t.Error("Lay", tab.Rows())
	}
}

// P11.2: the bounds of a cut.
func TestCutBounds(t *testing.T) {
	const groups = 8
	fill := func() *table.Table {
		tab := table.New(groups)
		for k := range 100 {
			tab.Put(k, api.Cell{Acc: k, N: 1})
		}
		return tab
	}
	all := fill().Rows()
	for _, x := range []struct{ lo, hi, n int }{{0, 8, 100}, {-1, 9, 100}, {math.MinInt, math.MaxInt, 100}, {8, 9, 0}, {3, 3, 0}, {5, 2, 0}, {-5, 0, 0}, {math.MaxInt, math.MinInt, 0}} {
		tab := fill()
		if got := tab.Cut(x.lo, x.hi); len(got) != x.n || tab.Len() != 100-x.n {
			t.Error("Cut", x.lo, x.hi, len(got), tab.Len())
		}
	}
	for lo := range groups + 1 {
		for hi := lo; hi <= groups; hi++ {
			tab := fill()
			got := tab.Cut(lo, hi)
			for _, x := range all {
				if g := group.Of(x.Key, groups); slices.Contains(got, x) != (lo <= g && g < hi) {
					t.Fatal("Cut", lo, hi, x)
				}
			}
		}
	}
}

// P11.3
func TestMoving(t *testing.T) {
	r := rand.New(rand.NewSource(12))
	for range 200 {
		groups := 1 + r.Intn(64)
		a, b := table.New(groups), table.New(groups)
		for range r.Intn(80) {
			a.Put(int(r.Uint64())>>r.Intn(64), api.Cell{Acc: r.Intn(9), N: 1 + r.Intn(9)})
		}
		rows := a.Rows()
		lo, mid, hi := r.Intn(groups), r.Intn(groups), r.Intn(groups+1)
		mid = max(lo, mid)
		hi = max(mid, hi)
		once := a.Cut(lo, hi)
		a.Lay(once)
		if !slices.Equal(a.Rows(), rows) {
			t.Fatal("cutting, and laying it again, changes a table")
		}
		parts := append(a.Cut(lo, mid), a.Cut(mid, hi)...)
		if !slices.Equal(parts, once) {
			t.Fatal("cut in parts", parts, once)
		}
		b.Lay(rows)
		if !slices.Equal(b.Rows(), rows) || b.Len() != len(rows) {
			t.Fatal("a new table with all rows is another one")
		}
	}
}

// R3
func TestMemory(t *testing.T) {
	tab := table.New(1)
	l := []api.Row{row(1, 2, 3), row(4, 5, 6)}
	tab.Lay(l[:1])
	l[0].Cell.Acc = 99
	a := tab.Rows()
	a[0].Cell.Acc = 77
	tab.Rows()[0] = api.Row{}
	if tab.Get(1) != (api.Cell{Acc: 2, N: 3}) || l[1] != row(4, 5, 6) {
		t.Error("memory is shared")
	}
}

func TestExamples(t *testing.T) {
	tab := table.New(1)
	tab.Put(5, api.Cell{Acc: 7, N: 1})
	tab.Put(-2, api.Cell{N: 3})
	tab.Put(9, api.Cell{})
	if got := tab.Rows(); !slices.Equal(got, []api.Row{row(-2, 0, 3), row(5, 7, 1)}) {
		t.Error("Rows", got)
	}
	tab.Put(5, api.Cell{})
	if tab.Get(5) != (api.Cell{}) || tab.Len() != 1 {
		t.Error("Get, Len")
	}
	if got := tab.Cut(0, 1); !slices.Equal(got, []api.Row{row(-2, 0, 3)}) || tab.Len() != 0 {
		t.Error("Cut", got)
	}
}
