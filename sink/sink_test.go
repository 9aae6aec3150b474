package sink_test

import (
	"math"
	"math/rand"
	"slices"
	"testing"

	"oxbow/api"
	"oxbow/sink"
)

func rec(n int) api.Rec { return api.Rec{Key: n % 3, Val: n} }

// model is what a sink should have.
type model struct {
	open []api.Rec
	cuts map[int][]api.Rec
	seen []int // all numbers that were cut or committed
}

func (m *model) nos() []int {
	var l []int
	for no := range m.cuts {
		l = append(l, no)
	}
	slices.Sort(l)
	return l
}

func (m *model) cut(no int) []api.Rec {
	if slices.ContainsFunc(m.seen, func(x int) bool { return x >= no }) {
		return nil
	}
	m.seen = append(m.seen, no)
	m.cuts[no], m.open = m.open, nil
	var l []api.Rec
	for _, n := range m.nos() {
		l = append(l, m.cuts[n]...)
	}
	return l
}

func (m *model) commit(no int) {
	m.seen = append(m.seen, no)
	for n := range m.cuts {
		if n <= no {
			delete(m.cuts, n)
		}
	}
}

// P13.1, P13.2, P13.3: any calls, against a model.
func TestAnyCalls(t *testing.T) {
	r := rand.New(rand.NewSource(13))
	for range 1000 {
		s, m := sink.New(), &model{cuts: map[int][]api.Rec{}}
		last := r.Intn(10) - 20
		for i := range 60 {
			switch no := last + r.Intn(5) - 1; r.Intn(6) {
			case 0, 1, 2:
				s.Take(rec(i))
				m.open = append(m.open, rec(i))
			case 3, 4:
				if got, want := s.Cut(no), m.cut(no); !slices.Equal(got, want) {
					t.Fatal("Cut", no, got, "want", want)
				}
				last = max(last, no)
			case 5:
				no -= r.Intn(4)
				s.Commit(no)
				m.commit(no)
				last = max(last, no)
			}
			if s.Open() != len(m.open) || !slices.Equal(s.Cuts(), m.nos()) {
				t.Fatal("Open, Cuts", s.Open(), s.Cuts(), "want", len(m.open), m.nos())
			}
		}
	}
}

// P13.1
func TestNew(t *testing.T) {
	s := sink.New()
	if s.Open() != 0 || len(s.Cuts()) != 0 {
		t.Error("a new sink has something")
	}
	if got := s.Cut(math.MinInt); len(got) != 0 || !slices.Equal(s.Cuts(), []int{math.MinInt}) {
		t.Error("the least number of all", got, s.Cuts())
	}
	s.Take(rec(1))
	if got := s.Cut(math.MinInt); len(got) != 0 || s.Open() != 1 {
		t.Error("the same number again", got, s.Open())
	}
	if got := s.Cut(math.MaxInt); !slices.Equal(got, []api.Rec{rec(1)}) {
		t.Error("the greatest number of all", got)
	}
}

// P13.2, P13.3: a number that was committed isn't cut any more, though no cut had it.
func TestCommittedAhead(t *testing.T) {
	s := sink.New()
	s.Commit(5)
	s.Take(rec(1))
	for _, no := range []int{-1, 0, 4, 5} {
		if got := s.Cut(no); len(got) != 0 || s.Open() != 1 || len(s.Cuts()) != 0 {
			t.Error("Cut", no, got, s.Open(), s.Cuts())
		}
	}
	s.Commit(3)
	if got := s.Cut(5); len(got) != 0 {
		t.Error("a lesser commit let 5 be cut", got)
	}
	if got := s.Cut(6); !slices.Equal(got, []api.Rec{rec(1)}) || s.Open() != 0 {
		t.Error("Cut 6", got)
	}
	s.Commit(5)
	if !slices.Equal(s.Cuts(), []int{6}) {
		t.Error("a lesser commit discards a cut", s.Cuts())
	}
	s.Commit(math.MinInt)
	s.Commit(6)
	if len(s.Cuts()) != 0 {
		t.Error("a cut is left", s.Cuts())
	}
}

// P13.4: each record is committed once, in order, whichever cuts were abandoned.
func TestExactlyOnce(t *testing.T) {
	r := rand.New(rand.NewSource(14))
	for range 500 {
		s := sink.New()
		var took, committed []api.Rec
		no := 0
		for i := range 100 {
			if r.Intn(3) > 0 {
				took = append(took, rec(i))
				s.Take(rec(i))
				continue
			}
			no += 1 + r.Intn(2)
			l := s.Cut(no)
			before := len(took)
			for range r.Intn(3) { // it goes on while the checkpoint is under way
				took = append(took, rec(i))
				s.Take(rec(i))
			}
			if r.Intn(2) == 0 {
				committed = append(committed, l...)
				s.Commit(no)
				if !slices.Equal(committed, took[:before]) {
					t.Fatal("committed", committed, "of", took[:before])
				}
			}
		}
	}
}

// R3
func TestMemory(t *testing.T) {
	s := sink.New()
	s.Take(rec(1))
	a := s.Cut(1)
	_ = append(a, rec(50))
	s.Take(rec(2))
	b := s.Cut(2)
	b[0] = rec(99)
	_ = append(a[:1], rec(77))
	s.Cuts()[0] = 66
	if a[0] != rec(1) || !slices.Equal(s.Cut(3), []api.Rec{rec(1), rec(2)}) || !slices.Equal(s.Cuts(), []int{1, 2, 3}) {
		t.Error("an answer shares memory")
	}
	s.Take(rec(3))
	s.Commit(2)
	if got := s.Cut(4); !slices.Equal(got, []api.Rec{rec(3)}) || b[1] != rec(2) {
		t.Error("behind a commit", got, b)
	}
}

func TestExamples(t *testing.T) {
	a, b, c := rec(1), rec(2), rec(3)
	s := sink.New()
	s.Take(a)
	if got := s.Cut(1); !slices.Equal(got, []api.Rec{a}) {
		t.Error("Cut 1", got)
	}
	s.Take(b)
	if got := s.Cut(2); !slices.Equal(got, []api.Rec{a, b}) || !slices.Equal(s.Cuts(), []int{1, 2}) {
		t.Error("Cut 2", got, s.Cuts())
	}
	s.Commit(1)
	s.Take(c)
	if got := s.Cut(3); !slices.Equal(got, []api.Rec{b, c}) {
		t.Error("Cut 3", got)
	}
	s.Commit(3)
	if len(s.Cuts()) != 0 || s.Open() != 0 {
		t.Error("behind Commit 3", s.Cuts(), s.Open())
	}
	if len(s.Cut(3)) != 0 || len(s.Cut(2)) != 0 || len(s.Cuts()) != 0 {
		t.Error("lesser numbers")
	}
	if got := s.Cut(4); len(got) != 0 || !slices.Equal(s.Cuts(), []int{4}) {
		t.Error("Cut 4", got, s.Cuts())
	}
}
