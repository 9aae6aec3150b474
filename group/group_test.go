package group_test

import (
	"hash/fnv"
	"math"
	"math/rand"
	"testing"

	"oxbow/group"
)

// hash is a key's FNV-1a, by the library.
func hash(key int) uint32 {
	h := fnv.New32a()
	for range 8 {
		h.Write([]byte{byte(key)})
		key >>= 8
	}
	return h.Sum32()
}

// P8.1
func TestOf(t *testing.T) {
	r := rand.New(rand.NewSource(1))
	keys := []int{0, 1, -1, 2, 255, 256, 1 << 31, 1 << 32, 1 << 56, math.MaxInt, math.MinInt}
	for range 500 {
		keys = append(keys, int(r.Uint64())>>r.Intn(64))
	}
	for _, k := range keys {
		for g := 1; g <= 64; g++ {
			if got, want := group.Of(k, g), int(hash(k)%uint32(g)); got != want {
				t.Fatalf("Of(%d, %d) = %d, want %d", k, g, got, want)
			}
		}
		for _, g := range []int{0, -1, 65, 100, math.MaxInt, math.MinInt} {
			if got := group.Of(k, g); got != 0 {
				t.Fatalf("Of(%d, %d) = %d", k, g, got)
			}
		}
	}
}

// P8.2, P8.3, P8.4
func TestOwnersAndRanges(t *testing.T) {
	for groups := 1; groups <= 64; groups++ {
		for par := 1; par <= groups; par++ {
			at, least, most := 0, groups, 0
			for task := range par {
				lo, hi := group.Range(task, par, groups)
				if lo != at || hi <= lo {
					t.Fatalf("Range(%d, %d, %d) = %d, %d", task, par, groups, lo, hi)
				}
				for g := lo; g < hi; g++ {
					if got := group.Owner(g, par, groups); got != task || got != g*par/groups {
						t.Fatalf("Owner(%d, %d, %d) = %d, not %d", g, par, groups, got, task)
					}
				}
				at, least, most = hi, min(least, hi-lo), max(most, hi-lo)
			}
			if at != groups || most-least > 1 {
				t.Fatalf("%d tasks, %d groups: up to %d, from %d to %d each", par, groups, at, least, most)
			}
		}
	}
}

// What isn't valid.
func TestInvalid(t *testing.T) {
	for _, x := range [][3]int{{0, 0, 8}, {0, -1, 8}, {0, 9, 8}, {0, 1, 0}, {0, 1, -8}, {0, 1, 65}, {0, 65, 65}, {-1, 3, 8}, {8, 3, 8}, {9, 3, 8}, {64, 3, 64}, {math.MaxInt, 3, 8}, {math.MinInt, 3, 8}, {7, math.MaxInt, 8}, {7, 3, math.MaxInt}, {7, 3, math.MinInt}, {1, math.MinInt, math.MinInt}} {
		if got := group.Owner(x[0], x[1], x[2]); got != 0 {
			t.Errorf("Owner%v = %d", x, got)
		}
	}
	for _, x := range [][3]int{{0, 0, 8}, {0, -1, 8}, {0, 9, 8}, {0, 1, 0}, {0, 1, -8}, {0, 1, 65}, {0, 65, 65}, {-1, 3, 8}, {3, 3, 8}, {4, 3, 8}, {math.MaxInt, 3, 8}, {math.MinInt, 3, 8}, {2, math.MaxInt, 8}, {2, 3, math.MaxInt}, {2, 3, math.MinInt}} {
		if lo, hi := group.Range(x[0], x[1], x[2]); lo != 0 || hi != 0 {
			t.Errorf("Range%v = %d, %d", x, lo, hi)
		}
	}
	if lo, hi := group.Range(63, 64, 64); lo != 63 || hi != 64 || group.Owner(63, 64, 64) != 63 {
		t.Error("the greatest valid arguments", lo, hi)
	}
}

func TestExamples(t *testing.T) {
	for task, want := range [][2]int{{0, 3}, {3, 6}, {6, 8}} {
		if lo, hi := group.Range(task, 3, 8); lo != want[0] || hi != want[1] {
			t.Error("Range", task, lo, hi)
		}
	}
	if group.Owner(0, 3, 8) != 0 || group.Owner(3, 3, 8) != 1 || group.Owner(7, 3, 8) != 2 {
		t.Error("Owner")
	}
	if group.Of(5, 1) != 0 || group.Of(5, 0) != 0 || group.Owner(8, 3, 8) != 0 {
		t.Error("zeros")
	}
}
