package align_test

import (
	"math"
	"math/rand"
	"testing"

	"oxbow/align"
	"oxbow/api"
)

const most = api.MaxOps * api.MaxPar

// model is an Align, as the chapter tells it.
type model struct {
	n        int
	awaits   bool
	awaited  int
	blocked  map[int]bool
	done     bool
	complete int
}

func (m *model) barrier(input, no int) bool {
	if input < 0 || input >= m.n || m.done && m.complete >= no || m.awaits && m.awaited > no {
		return false
	}
	if !m.awaits || m.awaited < no {
		m.awaits, m.awaited, m.blocked = true, no, map[int]bool{}
	}
	m.blocked[input] = true
	if len(m.blocked) < m.n {
		return false
	}
	m.awaits, m.blocked, m.done, m.complete = false, nil, true, no
	return true
}

func check(t *testing.T, a *align.Align, m *model) {
	t.Helper()
	free := 0
	for i := -2; i < m.n+2; i++ {
		if a.Blocked(i) != m.blocked[i] {
			t.Fatal("Blocked", i, a.Blocked(i), m)
		}
		if i >= 0 && i < m.n && !a.Blocked(i) {
			free++
		}
	}
	if free == 0 {
		t.Fatal("all inputs are blocked", m)
	}
}

// P19.1 to P19.4: any calls, against a model.
func TestAnyCalls(t *testing.T) {
	r := rand.New(rand.NewSource(19))
	for range 1000 {
		m := &model{n: 1 + r.Intn(5)}
		if r.Intn(20) == 0 {
			m.n = most - r.Intn(3)
		}
		a := align.New(m.n)
		check(t, a, m)
		no, last, completed := r.Intn(20)-10, 0, false
		for range 40 + 4*m.n {
			input := r.Intn(m.n)
			if r.Intn(15) == 0 {
				input = []int{-1, m.n, m.n + 1, math.MaxInt, math.MinInt}[r.Intn(5)]
			}
			x := no
			switch r.Intn(6 + m.n) {
			case 0:
				no += r.Intn(3)
				x = no
			case 1:
				x = no - r.Intn(3)
			}
			got := a.Barrier(input, x)
			if got != m.barrier(input, x) {
				t.Fatal("Barrier", input, x, got, m)
			}
			if got {
				if completed && x <= last {
					t.Fatal("completed", x, "behind", last)
				}
				last, completed = x, true
				no = x + r.Intn(3)
			}
			check(t, a, m)
		}
	}
}

// P19.1, P19.2: all numbers, at the least and the greatest count of inputs.
func TestEdges(t *testing.T) {
	a := align.New(1)
	for _, x := range []struct {
		no   int
		want bool
	}{{math.MinInt, true}, {math.MinInt, false}, {-1, true}, {0, true}, {0, false}, {-1, false}, {math.MaxInt, true}, {math.MaxInt, false}, {math.MinInt, false}} {
		if got := a.Barrier(0, x.no); got != x.want || a.Blocked(0) {
			t.Error("one input, barrier", x.no, got)
		}
	}
	a = align.New(most)
	for i := range most {
		if got := a.Barrier(i, 1); got != (i == most-1) || a.Blocked(i) != (i < most-1) {
			t.Error("96 inputs, barrier at", i, got)
		}
	}
	if a.Blocked(-1) || a.Blocked(most) || a.Blocked(math.MaxInt) || a.Blocked(math.MinInt) {
		t.Error("an input that there isn't is blocked")
	}
	a = align.New(2)
	if a.Barrier(0, 0) || !a.Blocked(0) || a.Blocked(1) || !a.Barrier(1, 0) {
		t.Error("barrier 0 of a new Align")
	}
}

// P19.2: one input that delivers a barrier twice doesn't stand for another one.
func TestTwice(t *testing.T) {
	a := align.New(3)
	for range 5 {
		if a.Barrier(1, 7) {
			t.Fatal("complete by one input")
		}
	}
	if a.Barrier(0, 7) || !a.Barrier(2, 7) {
		t.Error("the others")
	}
	a.Barrier(0, 8)
	a.Barrier(1, 8)
	if a.Barrier(2, 9) || a.Blocked(0) || a.Blocked(1) || !a.Blocked(2) {
		t.Error("a greater number doesn't begin anew")
	}
	if a.Barrier(2, 8) || a.Barrier(1, 9) || !a.Barrier(0, 9) {
		t.Error("the greater number's barriers")
	}
}

func TestExamples(t *testing.T) {
	a := align.New(2)
	if a.Barrier(0, 1) || !a.Blocked(0) || a.Blocked(1) || !a.Barrier(1, 1) || a.Blocked(0) {
		t.Error("the first line")
	}
	if a.Barrier(0, 2) || a.Barrier(1, 3) || a.Blocked(0) || a.Barrier(0, 2) || !a.Barrier(0, 3) || a.Barrier(1, 3) {
		t.Error("the second line")
	}
}
