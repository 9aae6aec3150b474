package link_test

import (
	"math"
	"math/rand"
	"testing"

	"oxbow/api"
	"oxbow/link"
)

func msg(n int) api.Msg {
	return api.Msg{Kind: 1 + n%2, No: n, Rec: api.Rec{Key: n, Val: -n}}
}

// P14.1
func TestCapacity(t *testing.T) {
	for most, want := range map[int]int{1: 1, 2: 2, 63: 63, 64: 64, 65: 64, 1000: 64, 0: 1, -1: 1, math.MaxInt: 64, math.MinInt: 1} {
		l := link.New(most)
		for n := range want {
			if l.Len() != n || l.Room() != want-n {
				t.Fatalf("New %d: Len %d, Room %d behind %d", most, l.Len(), l.Room(), n)
			}
			if !l.Push(msg(n)) {
				t.Fatalf("New %d: no room for %d", most, n)
			}
		}
		if l.Push(msg(-1)) || l.Len() != want || l.Room() != 0 {
			t.Fatalf("New %d: Len %d, Room %d once it's full", most, l.Len(), l.Room())
		}
		for n := range want {
			if m, ok := l.Pop(); !ok || m != msg(n) {
				t.Fatalf("New %d: Pop %v, want %v", most, m, msg(n))
			}
		}
		if m, ok := l.Pop(); ok || m != (api.Msg{}) || l.Len() != 0 || l.Room() != want {
			t.Fatalf("New %d: once it's empty", most)
		}
	}
}

// P14.1, P14.2, P14.3: any calls, against a list.
func TestAnyCalls(t *testing.T) {
	r := rand.New(rand.NewSource(14))
	for range 500 {
		most := 1 + r.Intn(8)
		l := link.New(most)
		var queue []api.Msg
		for n := range 200 {
			switch r.Intn(5) {
			case 0, 1:
				fits := len(queue) < most
				if l.Push(msg(n)) != fits {
					t.Fatal("Push", fits)
				}
				if fits {
					queue = append(queue, msg(n))
				}
			case 2, 3:
				m, ok := l.Pop()
				if ok != (len(queue) > 0) || ok && m != queue[0] || !ok && m != (api.Msg{}) {
					t.Fatal("Pop", m, ok, queue)
				}
				if ok {
					queue = queue[1:]
				}
			case 4:
				for range 2 {
					m, ok := l.Peek()
					if ok != (len(queue) > 0) || ok && m != queue[0] || !ok && m != (api.Msg{}) {
						t.Fatal("Peek", m, ok, queue)
					}
				}
			}
			if l.Len() != len(queue) || l.Room() != most-len(queue) {
				t.Fatal("Len, Room", l.Len(), l.Room(), len(queue))
			}
		}
	}
}

func TestExamples(t *testing.T) {
	a, b, c := msg(1), msg(2), msg(3)
	l := link.New(2)
	if !l.Push(a) || !l.Push(b) || l.Push(c) || l.Len() != 2 || l.Room() != 0 {
		t.Error("pushing", l.Len(), l.Room())
	}
	if m, ok := l.Peek(); !ok || m != a {
		t.Error("Peek", m, ok)
	}
	if m, ok := l.Pop(); !ok || m != a {
		t.Error("Pop", m, ok)
	}
	if !l.Push(c) {
		t.Error("Push c")
	}
	for _, want := range []api.Msg{b, c} {
		if m, ok := l.Pop(); !ok || m != want {
			t.Error("Pop", m, ok, want)
		}
	}
	if m, ok := l.Pop(); ok || m != (api.Msg{}) {
		t.Error("Pop of none", m, ok)
	}
}
