package oper_test

import (
	"math/rand"
	"slices"
	"testing"

	"oxbow/api"
	"oxbow/calc"
	"oxbow/oper"
	"oxbow/table"
)

func op(kind, o, a, b int) api.Op { return api.Op{Kind: kind, Fn: api.Fn{Op: o, A: a, B: b}} }

func rec(key, val int) api.Rec { return api.Rec{Key: key, Val: val} }

// stateless is operators of all kinds that keep no states.
var stateless = []api.Op{
	op(api.Source, 0, 0, 0), op(api.Union, 0, 0, 0), op(api.Sink, 0, 0, 0),
	op(api.Map, api.FAdd, 3, 0), op(api.Map, api.FMul, -3, 0), op(api.Map, api.FXor, 3, 0), op(api.Map, api.FNeg, 0, 0), op(api.Map, api.FNeg, 5, 0), op(api.Map, api.FMod, 3, 0), op(api.Map, api.FMin, 3, 0), op(api.Map, api.FMax, 3, 0),
	op(api.Filter, api.FBelow, 3, 0), op(api.Filter, api.FRest, 3, 1), op(api.Filter, api.FKey, 2, 1),
	op(api.FlatMap, 0, 0, 5), op(api.FlatMap, 0, 1, 5), op(api.FlatMap, 0, 4, -5),
}

// made is what such an operator makes of a record.
func made(o api.Op, r api.Rec) []api.Rec {
	switch o.Kind {
	case api.Map:
		return []api.Rec{rec(r.Key, calc.Map(o.Fn, r.Val))}
	case api.Filter:
		if !calc.Keep(o.Fn, r) {
			return nil
		}
	case api.FlatMap:
		var l []api.Rec
		for _, v := range calc.Fan(o.Fn, r.Val) {
			l = append(l, rec(r.Key, v))
		}
		return l
	}
	return []api.Rec{r}
}

// P12.1
func TestStateless(t *testing.T) {
	for _, o := range stateless {
		tab := table.New(4)
		tab.Lay([]api.Row{{Key: 1, Cell: api.Cell{Acc: 9, N: 2}}, {Key: 2, Cell: api.Cell{Acc: 8, N: 1}}})
		before := tab.Rows()
		for key := -3; key < 4; key++ {
			for val := -5; val < 8; val++ {
				r := rec(key, val)
				want := made(o, r)
				if got := oper.Do(o, nil, r); !slices.Equal(got, want) {
					t.Errorf("%v, %v, without a table: %v, want %v", o, r, got, want)
				}
				if got := oper.Do(o, tab, r); !slices.Equal(got, want) {
					t.Errorf("%v, %v: %v, want %v", o, r, got, want)
				}
			}
		}
		if !slices.Equal(tab.Rows(), before) {
			t.Errorf("%v changed the table", o)
		}
	}
}

// step checks one Do of an operator that keeps states against calc.
func step(t *testing.T, o api.Op, tab *table.Table, r api.Rec) []api.Rec {
	t.Helper()
	want := []api.Rec(nil)
	other := map[int]api.Cell{}
	for _, x := range tab.Rows() {
		other[x.Key] = x.Cell
	}
	cell := calc.Fold(o.Fn, tab.Get(r.Key), r.Val)
	if o.Kind == api.Fold {
		want = []api.Rec{rec(r.Key, cell.Acc)}
	} else {
		c, v, told := calc.Window(o.Fn, tab.Get(r.Key), r.Val)
		cell = c
		if told {
			want = []api.Rec{rec(r.Key, v)}
		}
	}
	got := oper.Do(o, tab, r)
	if !slices.Equal(got, want) || tab.Get(r.Key) != cell {
		t.Fatal(o, r, got, tab.Get(r.Key), "want", want, cell)
	}
	for _, x := range tab.Rows() {
		if x.Key != r.Key && other[x.Key] != x.Cell {
			t.Fatal("another key's state changed", x)
		}
	}
	return got
}

// P12.2, P12.3
func TestStates(t *testing.T) {
	r := rand.New(rand.NewSource(12))
	for kind := api.Fold; kind <= api.Window; kind++ {
		for f := api.FSum; f <= api.FCount; f++ {
			for range 30 {
				a := 0
				if kind == api.Window {
					a = 1 + r.Intn(api.MaxWindow)
				}
				o := op(kind, f, a, 0)
				tab := table.New(1 + r.Intn(8))
				told, came := map[int][]api.Rec{}, map[int][]api.Rec{}
				for range 150 {
					x := rec(r.Intn(6), r.Intn(20)-10)
					came[x.Key] = append(came[x.Key], x)
					told[x.Key] = append(told[x.Key], step(t, o, tab, x)...)
				}
				for key, l := range came { // each key alone
					alone := table.New(1)
					var got []api.Rec
					for _, x := range l {
						got = append(got, oper.Do(o, alone, x)...)
					}
					if !slices.Equal(got, told[key]) {
						t.Fatal("keys affect each other", o, key, got, told[key])
					}
				}
			}
		}
	}
}

// P12.2: a Window's state is gone once it told; a Fold's goes on from what the table has.
func TestTable(t *testing.T) {
	tab := table.New(2)
	w := op(api.Window, api.FSum, 2, 0)
	if got := oper.Do(w, tab, rec(7, 5)); len(got) != 0 || tab.Get(7) != (api.Cell{Acc: 5, N: 1}) {
		t.Error("the first of two", got, tab.Rows())
	}
	if got := oper.Do(w, tab, rec(7, 6)); !slices.Equal(got, []api.Rec{rec(7, 11)}) || tab.Len() != 0 {
		t.Error("the second of two", got, tab.Rows())
	}
	tab.Put(7, api.Cell{Acc: 100, N: 3})
	if got := oper.Do(op(api.Fold, api.FSum, 0, 0), tab, rec(7, 1)); !slices.Equal(got, []api.Rec{rec(7, 101)}) || tab.Get(7) != (api.Cell{Acc: 101, N: 4}) {
		t.Error("Fold", got, tab.Rows())
	}
}

func TestExamples(t *testing.T) {
	in := []api.Rec{rec(1, 5), rec(2, 7), rec(1, 6)}
	tab := table.New(4)
	var got []api.Rec
	for _, r := range in {
		got = append(got, oper.Do(op(api.Fold, api.FSum, 0, 0), tab, r)...)
	}
	if !slices.Equal(got, []api.Rec{rec(1, 5), rec(2, 7), rec(1, 11)}) {
		t.Error("Fold FSum", got)
	}
	tab = table.New(4)
	got = nil
	for _, r := range in {
		got = append(got, oper.Do(op(api.Window, api.FMost, 2, 0), tab, r)...)
	}
	if !slices.Equal(got, []api.Rec{rec(1, 6)}) {
		t.Error("Window FMost", got)
	}
	if got := oper.Do(op(api.FlatMap, 0, 2, 1), nil, rec(1, 5)); !slices.Equal(got, []api.Rec{rec(1, 5), rec(1, 6)}) {
		t.Error("FlatMap", got)
	}
}
