package place_test

import (
	"math"
	"slices"
	"testing"

	"oxbow/api"
	"oxbow/place"
)

// P23.1, P23.2
func TestPlace(t *testing.T) {
	for workers := 1; workers <= api.MaxWorkers; workers++ {
		for slots := 1; slots <= api.MaxSlots; slots++ {
			var before []int
			for tasks := range workers*slots + 1 {
				got, no := place.Place(tasks, workers, slots)
				if no != api.OK || len(got) != tasks {
					t.Fatal(tasks, workers, slots, got, no)
				}
				count := make([]int, workers)
				for i, w := range got {
					if w != i%workers {
						t.Fatal("task", i, "of", tasks, workers, slots, "at", w)
					}
					count[w]++
				}
				if slices.Max(count) > slots || slices.Max(count)-slices.Min(count) > 1 {
					t.Fatal("uneven", count)
				}
				if tasks > 0 && !slices.Equal(got[:tasks-1], before) {
					t.Fatal("a task more moves others", tasks, workers, slots)
				}
				before = got
			}
			if got, no := place.Place(workers*slots+1, workers, slots); no != api.ErrSlots || len(got) != 0 {
				t.Fatal("one task too many", workers, slots, no)
			}
		}
	}
}

// P23.1: which error comes first.
func TestErrors(t *testing.T) {
	for _, x := range []struct {
		tasks, workers, slots int
		no                    api.Errno
	}{
		{0, 0, 1, api.ErrArg}, {0, -1, 1, api.ErrArg}, {0, 9, 1, api.ErrArg}, {0, 1, 0, api.ErrArg}, {0, 1, -1, api.ErrArg}, {0, 1, 17, api.ErrArg},
		{-1, 1, 1, api.ErrArg}, {math.MinInt, 8, 16, api.ErrArg}, {5, math.MaxInt, math.MaxInt, api.ErrArg}, {5, 1 << 32, 1 << 32, api.ErrArg},
		{1000, 0, 3, api.ErrArg}, {1000, 3, 17, api.ErrArg}, {129, 8, 16, api.ErrSlots}, {math.MaxInt, 8, 16, api.ErrSlots},
		{128, 8, 16, api.OK}, {0, 8, 16, api.OK},
	} {
		if got, no := place.Place(x.tasks, x.workers, x.slots); no != x.no || no != api.OK && len(got) != 0 {
			t.Error(x, got, no)
		}
	}
}

func TestExamples(t *testing.T) {
	if got, no := place.Place(5, 2, 3); no != api.OK || !slices.Equal(got, []int{0, 1, 0, 1, 0}) {
		t.Error(got, no)
	}
	if _, no := place.Place(7, 2, 3); no != api.ErrSlots {
		t.Error(no)
	}
	if _, no := place.Place(1, 0, 3); no != api.ErrArg {
		t.Error(no)
	}
	if got, no := place.Place(0, 1, 1); no != api.OK || len(got) != 0 {
		t.Error(got, no)
	}
}
