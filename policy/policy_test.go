package policy_test

import (
	"math"
	"math/big"
	"math/rand"
	"testing"

	"oxbow/api"
	"oxbow/policy"
)

// far tells whether some operator's numbers are at least slack apart, by great numbers.
func far(cur, target []int, slack int) bool {
	for i := range min(len(cur), len(target)) {
		d := new(big.Int).Sub(big.NewInt(int64(cur[i])), big.NewInt(int64(target[i])))
		if d.Abs(d).Cmp(big.NewInt(int64(slack))) >= 0 {
			return true
		}
	}
	return false
}

// P27.1, P27.2, P27.3: any calls, against a model.
func TestAnyCalls(t *testing.T) {
	r := rand.New(rand.NewSource(27))
	yes := 0
	for range 1000 {
		cooldown, slack := 1+r.Intn(20), 1+r.Intn(3)
		p := policy.New(cooldown, slack)
		now, last, decided := r.Intn(5), 0, false
		if r.Intn(4) == 0 {
			now = math.MaxInt - 400
		}
		for range 60 {
			now += r.Intn(6)
			if r.Intn(10) == 0 && now > 10 { // the time may go backwards
				now -= r.Intn(8)
			}
			cur, target := make([]int, r.Intn(4)), make([]int, r.Intn(4))
			for i := range cur {
				cur[i] = 1 + r.Intn(5)
			}
			for i := range target {
				target[i] = 1 + r.Intn(5)
			}
			no, idle := api.OK, r.Intn(5) > 0
			if r.Intn(5) == 0 {
				no = api.Errno(r.Intn(18))
			}
			want := no == api.OK && idle && far(cur, target, slack) && (!decided || now-last >= cooldown)
			if got := p.Decide(now, cur, target, no, idle); got != want {
				t.Fatal("Decide", now, cur, target, no, idle, got, "last", last, decided, "cooldown", cooldown, "slack", slack)
			}
			if want {
				last, decided = now, true
				yes++
			}
		}
	}
	if yes < 1000 {
		t.Error("too few decisions", yes)
	}
}

// P27.2: deviations that are no ints, and lists of other lengths.
func TestDeviations(t *testing.T) {
	for _, x := range []struct {
		cur, target []int
		slack       int
		want        bool
	}{
		{[]int{math.MinInt}, []int{math.MaxInt}, math.MaxInt, true},
		{[]int{math.MaxInt}, []int{math.MinInt}, math.MaxInt, true},
		{[]int{math.MinInt}, []int{0}, math.MaxInt, true},
		{[]int{-1}, []int{math.MaxInt}, math.MaxInt, true},
		{[]int{0}, []int{math.MaxInt}, math.MaxInt, true},
		{[]int{1}, []int{math.MaxInt}, math.MaxInt, false},
		{[]int{math.MaxInt}, []int{1}, math.MaxInt, false},
		{[]int{math.MinInt}, []int{-2}, math.MaxInt, false},
		{[]int{math.MinInt}, []int{-1}, math.MaxInt, true},
		{[]int{1, 2}, []int{1, 2}, 1, false},
		{[]int{1, 2}, []int{1, 3}, 1, true},
		{[]int{1, 2}, []int{1, 1}, 1, true},
		{[]int{1, 2}, []int{1, 3}, 2, false},
		{[]int{1, 3, 4}, []int{1}, 1, false},
		{[]int{1}, []int{1, 3, 4}, 1, false},
		{nil, []int{9}, 1, false},
		{[]int{9}, nil, 1, false},
		{nil, nil, 1, false},
		{[]int{2, 1}, []int{1, 2}, 2, false},
	} {
		if got := policy.New(1, x.slack).Decide(0, x.cur, x.target, api.OK, true); got != x.want {
			t.Error(x, got)
		}
	}
}

// P27.2: what returns false records nothing; great times.
func TestTimes(t *testing.T) {
	a, b := []int{1}, []int{2}
	p := policy.New(10, 1)
	if p.Decide(0, a, a, api.OK, true) || p.Decide(0, a, b, api.ErrZero, true) || p.Decide(0, a, b, api.OK, false) || !p.Decide(1, a, b, api.OK, true) {
		t.Error("the first decision")
	}
	if p.Decide(10, a, b, api.OK, true) || !p.Decide(11, a, b, api.OK, true) || p.Decide(20, a, b, api.OK, true) || !p.Decide(21, a, b, api.OK, true) {
		t.Error("the ones behind it")
	}
	if p.Decide(0, a, b, api.OK, true) || !p.Decide(31, a, b, api.OK, true) {
		t.Error("a time that goes backwards")
	}
	if !p.Decide(math.MaxInt, a, b, api.OK, true) || p.Decide(math.MaxInt, a, b, api.OK, true) || p.Decide(0, a, b, api.OK, true) {
		t.Error("the greatest time")
	}
	p = policy.New(math.MaxInt, 1)
	if !p.Decide(0, a, b, api.OK, true) || p.Decide(math.MaxInt-1, a, b, api.OK, true) || !p.Decide(math.MaxInt, a, b, api.OK, true) {
		t.Error("the greatest cooldown")
	}
}

func TestExamples(t *testing.T) {
	p := policy.New(10, 2)
	if p.Decide(5, []int{1, 4}, []int{2, 4}, api.OK, true) || !p.Decide(5, []int{1, 4}, []int{3, 4}, api.OK, true) || p.Decide(14, []int{3, 4}, []int{1, 4}, api.OK, true) || !p.Decide(15, []int{3, 4}, []int{1, 4}, api.OK, true) {
		t.Error("the first line")
	}
	if p.Decide(40, []int{1}, []int{9}, api.ErrZero, true) || p.Decide(40, []int{1}, []int{9}, api.OK, false) {
		t.Error("the second line")
	}
}
