package meter_test

import (
	"math"
	"math/rand"
	"slices"
	"testing"

	"oxbow/api"
	"oxbow/meter"
)

// P25.1
func TestNew(t *testing.T) {
	for n, want := range map[int]int{0: 0, 1: 1, 11: 11, 12: 12, 13: 12, 1000: 12, -1: 0, math.MaxInt: 12, math.MinInt: 0} {
		m := meter.New(n)
		if got := m.Read(); !slices.Equal(got, make([]api.Measure, want)) {
			t.Error("New", n, got)
		}
		m.Add(want, api.Did{Kind: api.DidRec})
		m.Add(want-1, api.Did{Kind: api.DidWait})
		l := make([]api.Measure, want)
		if want > 0 {
			l[want-1].Wait = 1
		}
		if got := m.Read(); !slices.Equal(got, l) {
			t.Error("the last operator of", n, got)
		}
	}
}

// P25.2
func TestKinds(t *testing.T) {
	for kind := -1; kind <= 6; kind++ {
		m := meter.New(3)
		m.Add(1, api.Did{Kind: kind, Out: 4, Busy: 7, Acked: true, Ack: api.Ack{No: 3}})
		want := api.Measure{}
		switch kind {
		case api.DidRec:
			want = api.Measure{In: 1, Out: 4, Busy: 7}
		case api.DidWait:
			want = api.Measure{Wait: 1}
		}
		if got := m.Read(); !slices.Equal(got, []api.Measure{{}, want, {}}) {
			t.Error("kind", kind, got)
		}
	}
	m := meter.New(1)
	for _, op := range []int{-1, 1, math.MaxInt, math.MinInt} {
		m.Add(op, api.Did{Kind: api.DidRec, Out: 1, Busy: 1})
	}
	if got := m.Read(); got[0] != (api.Measure{}) {
		t.Error("an operator that there isn't", got)
	}
	m.Add(0, api.Did{Kind: api.DidRec, Out: math.MaxInt, Busy: math.MaxInt})
	m.Add(0, api.Did{Kind: api.DidRec, Out: 1, Busy: 2})
	if got := m.Read(); got[0] != (api.Measure{In: 2, Out: math.MinInt, Busy: math.MinInt + 1}) {
		t.Error("no wrap-round", got)
	}
}

// P25.1, P25.2, P25.3
func TestSumsInAnyOrder(t *testing.T) {
	r := rand.New(rand.NewSource(25))
	type call struct {
		op int
		d  api.Did
	}
	for range 200 {
		n := 1 + r.Intn(12)
		want := make([]api.Measure, n)
		var calls []call
		for range r.Intn(60) {
			c := call{r.Intn(n), api.Did{Kind: r.Intn(5), Out: r.Intn(5), Busy: r.Intn(1000)}}
			calls = append(calls, c)
			switch c.d.Kind {
			case api.DidRec:
				want[c.op].In++
				want[c.op].Out += c.d.Out
				want[c.op].Busy += c.d.Busy
			case api.DidWait:
				want[c.op].Wait++
			}
		}
		m := meter.New(n)
		for range 2 {
			for _, i := range r.Perm(len(calls)) {
				m.Add(calls[i].op, calls[i].d)
			}
			if got := m.Read(); !slices.Equal(got, want) {
				t.Fatal(got, "want", want)
			}
			m.Reset()
			if got := m.Read(); !slices.Equal(got, make([]api.Measure, n)) {
				t.Fatal("behind Reset", got)
			}
		}
	}
}

// R3
func TestMemory(t *testing.T) {
	m := meter.New(2)
	m.Add(0, api.Did{Kind: api.DidWait})
	a := m.Read()
	a[1].In = 9
	m.Add(0, api.Did{Kind: api.DidWait})
	if a[0].Wait != 1 || m.Read()[1].In != 0 || m.Read()[0].Wait != 2 {
		t.Error("an answer shares memory")
	}
}

func TestExamples(t *testing.T) {
	m := meter.New(2)
	m.Add(1, api.Did{Kind: api.DidRec, Out: 2, Busy: 5})
	m.Add(1, api.Did{Kind: api.DidWait})
	m.Add(0, api.Did{Kind: api.DidPush})
	m.Add(2, api.Did{Kind: api.DidRec})
	if got := m.Read(); !slices.Equal(got, []api.Measure{{}, {In: 1, Out: 2, Busy: 5, Wait: 1}}) {
		t.Error(got)
	}
	m.Reset()
	if got := m.Read(); !slices.Equal(got, make([]api.Measure, 2)) {
		t.Error("behind Reset", got)
	}
}
