package source_test

import (
	"math"
	"math/rand"
	"slices"
	"testing"

	"oxbow/api"
	"oxbow/source"
)

func rec(p, i int) api.Rec { return api.Rec{Key: p, Val: i} }

// parts is partitions with so many records each.
func parts(lens ...int) [][]api.Rec {
	var l [][]api.Rec
	for p, n := range lens {
		var part []api.Rec
		for i := range n {
			part = append(part, rec(p, i))
		}
		l = append(l, part)
	}
	return l
}

// P18.1
func TestNew(t *testing.T) {
	for _, x := range []struct {
		lens, offsets, want []int
		left                int
	}{
		{[]int{3, 2}, nil, []int{0, 0}, 5},
		{[]int{3, 2}, []int{1}, []int{1, 0}, 4},
		{[]int{3, 2}, []int{3, 2}, []int{3, 2}, 0},
		{[]int{3, 2}, []int{4, -1}, []int{3, 0}, 2},
		{[]int{3, 2}, []int{math.MinInt, math.MaxInt}, []int{0, 2}, 3},
		{[]int{3, 2}, []int{1, 1, 1, 1}, []int{1, 1}, 3},
		{[]int{0, 0, 0}, []int{1, 2, 3}, []int{0, 0, 0}, 0},
		{nil, []int{1}, nil, 0},
	} {
		s := source.New(parts(x.lens...), x.offsets)
		if !slices.Equal(s.Offsets(), x.want) || s.Left() != x.left {
			t.Error(x, s.Offsets(), s.Left())
		}
	}
}

// P18.2
func TestNext(t *testing.T) {
	r := rand.New(rand.NewSource(18))
	for range 1000 {
		n := 1 + r.Intn(6)
		lens, at := make([]int, n), make([]int, n)
		left := 0
		for i := range lens {
			lens[i] = r.Intn(5)
			at[i] = r.Intn(lens[i] + 1)
			left += lens[i] - at[i]
		}
		s := source.New(parts(lens...), at)
		for range 30 {
			from := []int{r.Intn(n), r.Intn(100) - 50, math.MinInt + r.Intn(9), math.MaxInt - r.Intn(9)}[r.Intn(4)]
			p := ((from % n) + n) % n
			tries := 0
			for tries < n && at[p] == lens[p] {
				p = (p + 1) % n
				tries++
			}
			want, wantPart, is := api.Rec{}, 0, tries < n
			if is {
				want, wantPart = rec(p, at[p]), p
				at[p]++
				left--
			}
			got, part, ok := s.Next(from)
			if got != want || part != wantPart || ok != is {
				t.Fatal("Next", from, got, part, ok, "want", want, wantPart, is)
			}
			if !slices.Equal(s.Offsets(), at) || s.Left() != left {
				t.Fatal("Offsets, Left", s.Offsets(), s.Left(), at, left)
			}
		}
	}
	for _, l := range [][][]api.Rec{nil, {nil}, {nil, nil}} {
		for _, from := range []int{0, 1, -1, math.MinInt} {
			if got, part, ok := source.New(l, nil).Next(from); ok || part != 0 || got != (api.Rec{}) {
				t.Error("Next of nothing", got, part, ok)
			}
		}
	}
}

// P18.3
func TestReplay(t *testing.T) {
	r := rand.New(rand.NewSource(19))
	for range 200 {
		all := parts(r.Intn(6), r.Intn(6), r.Intn(6))
		s := source.New(all, nil)
		got := make([][]api.Rec, 3)
		var marks [][]int
		for {
			marks = append(marks, s.Offsets())
			x, p, ok := s.Next(r.Intn(3))
			if !ok {
				break
			}
			got[p] = append(got[p], x)
		}
		for p := range all {
			if !slices.Equal(got[p], all[p]) {
				t.Fatal("partition", p, got[p], all[p])
			}
		}
		mark := marks[r.Intn(len(marks))]
		again := source.New(all, mark)
		for p := range all {
			for i := mark[p]; i < len(all[p]); i++ {
				if x, _, _ := again.Next(p); x != all[p][i] {
					t.Fatal("from", mark, "again", x, all[p][i])
				}
			}
		}
	}
}

// R3
func TestMemory(t *testing.T) {
	l, offsets := parts(2, 1), []int{1, 0}
	s := source.New(l, offsets)
	l[0][1], l[1], offsets[0] = rec(9, 9), nil, 0
	s.Offsets()[0] = 0
	if got, _, _ := s.Next(0); got != rec(0, 1) {
		t.Error("an argument was kept, or an answer shares memory", got)
	}
	if got, _, ok := s.Next(1); got != rec(1, 0) || !ok {
		t.Error("the partitions were kept", got)
	}
	if offsets[0] != 0 || offsets[1] != 0 {
		t.Error("the offsets were changed", offsets)
	}
}

func TestExamples(t *testing.T) {
	s := source.New([][]api.Rec{{{Key: 1, Val: 5}, {Key: 1, Val: 6}}, nil, {{Key: 2, Val: 7}}}, nil)
	for _, x := range []struct {
		from int
		rec  api.Rec
		part int
	}{{0, api.Rec{Key: 1, Val: 5}, 0}, {1, api.Rec{Key: 2, Val: 7}, 2}, {1, api.Rec{Key: 1, Val: 6}, 0}} {
		if got, part, ok := s.Next(x.from); got != x.rec || part != x.part || !ok {
			t.Error("Next", x, got, part, ok)
		}
	}
	if _, _, ok := s.Next(7); ok || s.Left() != 0 || !slices.Equal(s.Offsets(), []int{2, 0, 1}) {
		t.Error("at the end", s.Offsets(), s.Left())
	}
}
