package feed_test

import (
	"math/rand"
	"slices"
	"testing"

	"oxbow/api"
	"oxbow/feed"
)

// job is a job with a source for each number of partitions, at the places 0, 2, 4 and so on, each with a sink behind it.
func job(parts ...int) api.Spec {
	s := api.Spec{Groups: 4}
	for i, n := range parts {
		s.Ops = append(s.Ops, api.Op{Kind: api.Source, Parts: n, Rate: 1, Cost: 1}, api.Op{Kind: api.Sink, In: []int{2 * i}, Cost: 1})
	}
	return s
}

func of(op int, parts ...[]api.Rec) api.Feed { return api.Feed{Op: op, Parts: parts} }

// recs is a partition of records with these keys.
func recs(keys ...int) []api.Rec {
	var l []api.Rec
	for i, k := range keys {
		l = append(l, api.Rec{Key: k, Val: i})
	}
	return l
}

// many is n records of one key.
func many(n, key int) []api.Rec {
	return slices.Repeat([]api.Rec{{Key: key, Val: 1}}, n)
}

// P6.1
func TestCheck(t *testing.T) {
	one, two, both := job(1), job(2), job(1, 2)
	for _, x := range []struct {
		name string
		s    api.Spec
		l    []api.Feed
		want api.Errno
	}{
		{"records", one, []api.Feed{of(0, recs(1, 2, 1))}, api.OK},
		{"an empty partition", one, []api.Feed{of(0, nil)}, api.OK},
		{"no feeds", one, nil, api.ErrInput},
		{"a feed of no source", one, []api.Feed{of(1, nil)}, api.ErrInput},
		{"a feed of no operator", one, []api.Feed{of(7, nil)}, api.ErrInput},
		{"a feed of no operator", one, []api.Feed{of(-1, nil)}, api.ErrInput},
		{"a feed twice", one, []api.Feed{of(0, nil), of(0, nil)}, api.ErrInput},
		{"one feed too many", one, []api.Feed{of(0, nil), of(1, nil)}, api.ErrInput},
		{"two sources", both, []api.Feed{of(0, recs(1)), of(2, recs(2), recs(3, 3))}, api.OK},
		{"falling", both, []api.Feed{of(2, nil, nil), of(0, nil)}, api.ErrInput},
		{"one lacks", both, []api.Feed{of(2, nil, nil)}, api.ErrInput},
		{"the last lacks", both, []api.Feed{of(0, nil)}, api.ErrInput},
		{"no partitions", one, []api.Feed{of(0)}, api.ErrMany},
		{"a partition lacks", two, []api.Feed{of(0, recs(1))}, api.ErrMany},
		{"a partition too many", two, []api.Feed{of(0, nil, nil, nil)}, api.ErrMany},
		{"a partition lacks of the second", both, []api.Feed{of(0, nil), of(2, nil)}, api.ErrMany},
		{"200 records", one, []api.Feed{of(0, many(200, 1))}, api.OK},
		{"201 records", one, []api.Feed{of(0, many(201, 1))}, api.ErrMany},
		{"200 records of two partitions", two, []api.Feed{of(0, many(120, 1), many(80, 2))}, api.OK},
		{"201 records of two partitions", two, []api.Feed{of(0, many(120, 1), many(81, 2))}, api.ErrMany},
		{"400 records of two sources", both, []api.Feed{of(0, many(200, 1)), of(2, many(100, 2), many(100, 3))}, api.OK},
		{"201 records of the second", both, []api.Feed{of(0, nil), of(2, many(100, 2), many(101, 3))}, api.ErrMany},
		{"a key in two partitions", two, []api.Feed{of(0, recs(1, 2), recs(3, 2))}, api.ErrKeys},
		{"a key of two sources", both, []api.Feed{of(0, recs(5)), of(2, recs(6), recs(7, 5))}, api.ErrKeys},
		{"a key in the same partition of two sources", both, []api.Feed{of(0, recs(5)), of(2, recs(5), nil)}, api.ErrKeys},
		{"key 0 in two partitions", two, []api.Feed{of(0, recs(0), recs(0))}, api.ErrKeys},
		{"key 0 in the second alone", two, []api.Feed{of(0, recs(1), recs(0, 0))}, api.OK},
		{"input, ahead of many", both, []api.Feed{of(0), of(1, recs(1))}, api.ErrInput},
		{"many, ahead of keys", both, []api.Feed{of(0, recs(5)), of(2, recs(5))}, api.ErrMany},
		{"many of a later one, ahead of keys", both, []api.Feed{of(0, recs(5)), of(2, recs(5), many(201, 6))}, api.ErrMany},
	} {
		if got := feed.Check(x.s, x.l); got != x.want {
			t.Errorf("%s: %d, want %d", x.name, got, x.want)
		}
	}
}

// P6.2
func TestKeysAndCount(t *testing.T) {
	for _, x := range []struct {
		l    []api.Feed
		keys []int
		n    int
	}{
		{nil, nil, 0},
		{[]api.Feed{of(3)}, nil, 0},
		{[]api.Feed{of(-5, recs(4, -4, 4)), of(-5, recs(0), recs(4, 9))}, []int{-4, 0, 4, 9}, 6},
		{[]api.Feed{of(0, many(500, 1)), of(0, nil, recs(-1<<63, 1<<63-1))}, []int{-1 << 63, 1, 1<<63 - 1}, 502},
	} {
		if got := feed.Keys(x.l); !slices.Equal(got, x.keys) {
			t.Error("Keys", got, "want", x.keys)
		}
		if got := feed.Count(x.l); got != x.n {
			t.Error("Count", got, "want", x.n)
		}
	}
	var all []int
	for i := range 300 {
		all = append(all, (i*7919)%300)
	}
	for range 20 {
		if got := feed.Keys([]api.Feed{of(0, recs(all...))}); len(got) != 300 || !slices.IsSorted(got) {
			t.Fatal("300 keys", got)
		}
	}
}

// P6.3
func TestOrderDoesNotMatter(t *testing.T) {
	r := rand.New(rand.NewSource(6))
	s := job(3, 2)
	count := map[api.Errno]int{}
	for range 3000 {
		l := []api.Feed{of(0, nil, nil, nil), of(2, nil, nil)}
		home := map[int]int{}
		clash := false
		for i, f := range l {
			for p := range f.Parts {
				for range r.Intn(4) {
					k := r.Intn(40)
					if at, ok := home[k]; ok && at != 10*i+p {
						clash = true
					}
					home[k] = 10*i + p
					f.Parts[p] = append(f.Parts[p], api.Rec{Key: k, Val: r.Intn(5)})
				}
			}
		}
		want := api.OK
		if clash {
			want = api.ErrKeys
		}
		count[want]++
		for range 3 {
			if got := feed.Check(s, l); got != want {
				t.Fatal("Check", l, got, want)
			}
			for _, f := range l {
				r.Shuffle(len(f.Parts), func(a, b int) { f.Parts[a], f.Parts[b] = f.Parts[b], f.Parts[a] })
				for _, p := range f.Parts {
					r.Shuffle(len(p), func(a, b int) { p[a], p[b] = p[b], p[a] })
				}
			}
		}
	}
	if count[api.OK] < 100 || count[api.ErrKeys] < 100 {
		t.Error("too few of one kind", count)
	}
}

func TestExamples(t *testing.T) {
	l := []api.Feed{of(0, []api.Rec{{Key: 1, Val: 5}, {Key: 1, Val: 6}}, []api.Rec{{Key: 2, Val: 5}})}
	if feed.Check(job(2), l) != api.OK || !slices.Equal(feed.Keys(l), []int{1, 2}) || feed.Count(l) != 3 {
		t.Error("the first")
	}
	l = []api.Feed{of(0, []api.Rec{{Key: 1, Val: 5}}, []api.Rec{{Key: 1, Val: 6}})}
	if feed.Check(job(2), l) != api.ErrKeys {
		t.Error("one key in two partitions")
	}
	if feed.Check(job(2), nil) != api.ErrInput || feed.Check(job(2), []api.Feed{of(0, nil)}) != api.ErrMany {
		t.Error("no feeds; one partition")
	}
}
