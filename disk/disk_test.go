package disk_test

import (
	"bytes"
	"math"
	"math/rand"
	"testing"

	"oxbow/api"
	"oxbow/disk"
)

func open(t *testing.T, n int) *disk.Disk {
	t.Helper()
	d, no := disk.New(n)
	if no != api.OK || d == nil {
		t.Fatal("New", n, no)
	}
	return d
}

// P15.1
func TestNew(t *testing.T) {
	for _, n := range []int{63, 0, -1, 64 - 1<<32, api.MaxDisk + 1, math.MaxInt, math.MinInt} {
		if d, no := disk.New(n); no != api.ErrArg || d != nil {
			t.Error("New", n, no)
		}
	}
	for _, n := range []int{64, 65, 1000, api.MaxDisk} {
		d := open(t, n)
		for area := range 2 {
			if len(d.Bytes(area)) != 0 || d.Room(area) != n {
				t.Error("a new area of", n, d.Room(area))
			}
			if no := d.Write(area, make([]byte, n+1)); no != api.ErrFull || d.Room(area) != n {
				t.Error("one byte too many", n, no)
			}
			if no := d.Write(area, make([]byte, n)); no != api.OK || d.Room(area) != 0 || len(d.Bytes(area)) != n {
				t.Error("as many bytes as fit", n, no)
			}
			if d.Write(area, nil) != api.OK || d.Write(area, []byte{1}) != api.ErrFull {
				t.Error("a full area", n)
			}
		}
	}
}

// P15.2: areas that there are not.
func TestNoArea(t *testing.T) {
	d := open(t, 64)
	d.Write(0, []byte("abc"))
	d.Write(1, []byte("de"))
	for _, area := range []int{-1, 2, 3, math.MaxInt, math.MinInt} {
		if no := d.Write(area, nil); no != api.ErrArg {
			t.Error("Write", area, no)
		}
		if no := d.Write(area, make([]byte, 100)); no != api.ErrArg {
			t.Error("Write of too much", area, no)
		}
		d.Sync(area)
		d.Cut(area, 0)
		if len(d.Bytes(area)) != 0 || d.Room(area) != 0 {
			t.Error("Bytes, Room", area)
		}
	}
	d.Crash(2) // what was done to no area synced nothing
	if string(d.Bytes(0)) != "ab" || string(d.Bytes(1)) != "de" {
		t.Error("the areas", d.Bytes(0), d.Bytes(1))
	}
}

// model is one area, as it should be.
type model struct{ synced, loose []byte }

func (m *model) all() []byte { return append(bytes.Clone(m.synced), m.loose...) }

func (m *model) cut(n int) {
	all := m.all()
	m.synced, m.loose = all[:min(max(n, 0), len(all))], nil
}

func (m *model) crash(keep int) {
	m.synced = append(bytes.Clone(m.synced), m.loose[:min(max(keep, 0), len(m.loose))]...)
	m.loose = nil
}

// P15.1 to P15.4: any calls, against two lists.
func TestAnyCalls(t *testing.T) {
	r := rand.New(rand.NewSource(15))
	for range 500 {
		size := 64 + r.Intn(40)
		d := open(t, size)
		areas := [2]*model{{}, {}}
		for range 80 {
			area := r.Intn(2)
			m := areas[area]
			n := []int{r.Intn(30), r.Intn(120), -1, math.MinInt, math.MaxInt}[min(r.Intn(12), 4)]
			switch r.Intn(8) {
			case 0, 1, 2, 3:
				b := make([]byte, r.Intn(30))
				r.Read(b)
				want := api.OK
				if len(m.all())+len(b) > size {
					want = api.ErrFull
				} else {
					m.loose = append(m.loose, b...)
				}
				if got := d.Write(area, b); got != want {
					t.Fatal("Write", got, want)
				}
			case 4, 5:
				d.Sync(area)
				m.cut(math.MaxInt)
			case 6:
				d.Cut(area, n)
				m.cut(n)
			case 7:
				d.Crash(n)
				areas[0].crash(n)
				areas[1].crash(n)
			}
			for i, m := range areas {
				if !bytes.Equal(d.Bytes(i), m.all()) || d.Room(i) != size-len(m.all()) {
					t.Fatal("area", i, d.Bytes(i), "want", m.all())
				}
			}
		}
	}
}

// P15.2: what stays behind a cut is synced, also if nothing was cut off.
func TestCutSyncs(t *testing.T) {
	for _, n := range []int{3, 4, 100, math.MaxInt} {
		d := open(t, 64)
		d.Write(0, []byte("abc"))
		d.Cut(0, n)
		d.Crash(0)
		if string(d.Bytes(0)) != "abc" {
			t.Error("Cut", n, d.Bytes(0))
		}
	}
	d := open(t, 64)
	d.Write(0, []byte("abc"))
	d.Sync(0)
	d.Cut(0, 1)
	d.Write(0, []byte("xyz"))
	d.Crash(1)
	if string(d.Bytes(0)) != "ax" {
		t.Error("synced bytes that were cut off count still", d.Bytes(0))
	}
}

// R3
func TestMemory(t *testing.T) {
	d := open(t, 64)
	b := []byte("abcdef")
	d.Write(0, b[:3])
	b[0] = '!'
	got := d.Bytes(0)
	got[1] = '?'
	_ = append(got[:1], "zz"...)
	if string(d.Bytes(0)) != "abc" || string(b) != "!bcdef" {
		t.Error("memory is shared", d.Bytes(0), b)
	}
	two := d.Bytes(0)
	d.Cut(0, 0)
	d.Write(0, []byte("xyz"))
	if string(two) != "abc" {
		t.Error("an answer changed later", two)
	}
}

func TestExamples(t *testing.T) {
	d := open(t, 64)
	if d.Write(0, []byte("abc")) != api.OK {
		t.Error("Write")
	}
	d.Sync(0)
	d.Write(0, []byte("de"))
	d.Crash(1)
	if string(d.Bytes(0)) != "abcd" || d.Room(0) != 60 {
		t.Error("behind the crash", d.Bytes(0), d.Room(0))
	}
	d.Cut(0, 2)
	d.Crash(9)
	if string(d.Bytes(0)) != "ab" || d.Write(0, make([]byte, 63)) != api.ErrFull || d.Write(2, []byte("a")) != api.ErrArg {
		t.Error("behind the cut", d.Bytes(0))
	}
}
