package store_test

import (
	"bytes"
	"math"
	"math/rand"
	"slices"
	"testing"

	"oxbow/api"
	"oxbow/codec"
	"oxbow/disk"
	"oxbow/frame"
	"oxbow/store"
)

func newDisk(t *testing.T, n int) *disk.Disk {
	t.Helper()
	d, no := disk.New(n)
	if no != api.OK {
		t.Fatal("disk.New", no)
	}
	return d
}

func framed(kind int, body []byte) []byte {
	b, _ := frame.Put(api.Frame{Kind: kind, Body: body})
	return b
}

func manifestFrame(m api.Manifest) []byte {
	b, _ := codec.PutManifest(m)
	return framed(api.FManifest, b)
}

func baseFrame(x api.Base) []byte {
	b, _ := codec.PutBase(x)
	return framed(api.FBase, b)
}

func rec(n int) api.Rec { return api.Rec{Key: n % 4, Val: n} }

// checkpoint is a small one, that commits these records of operator 0.
func checkpoint(no int, vals ...int) api.Manifest {
	m := api.Manifest{No: no, Par: []int{1}, Outs: [][]api.Rec{nil}}
	for _, v := range vals {
		m.Outs[0] = append(m.Outs[0], rec(v))
	}
	return m
}

func bare(m api.Manifest) api.Manifest { m.Outs = nil; return m }

// like tells whether two checkpoints are the same; nil and empty slices are.
func like(a, b api.Manifest) bool {
	x, _ := codec.PutManifest(a)
	y, _ := codec.PutManifest(b)
	return bytes.Equal(x, y)
}

// model is what a store, and its disk, should have.
type model struct {
	size  int
	area  int
	epoch int
	areas [2][]byte
	loose [2]int // how many of these bytes aren't synced
	outs  [][]api.Rec
	last  api.Manifest
	some  bool
	next  *api.Manifest
	base  bool
}

func (m *model) with(x api.Manifest) [][]api.Rec {
	var outs [][]api.Rec
	for op := range max(len(m.outs), len(x.Outs)) {
		var l []api.Rec
		if op < len(m.outs) {
			l = append(l, m.outs[op]...)
		}
		if op < len(x.Outs) {
			l = append(l, x.Outs[op]...)
		}
		outs = append(outs, l)
	}
	return outs
}

func (m *model) write(area int, b []byte) bool {
	if len(m.areas[area])+len(b) > m.size {
		return false
	}
	m.areas[area] = append(m.areas[area][:len(m.areas[area]):len(m.areas[area])], b...)
	m.loose[area] += len(b)
	return true
}

func (m *model) reset(area int) { m.areas[area], m.loose[area] = nil, 0 }

func (m *model) prepare(x api.Manifest) api.Errno {
	if m.next != nil {
		return api.ErrState
	}
	if x.No <= m.last.No {
		return api.ErrOrder
	}
	if _, no := codec.PutManifest(x); no != api.OK {
		return no
	}
	m.base = false
	if !m.write(m.area, manifestFrame(x)) {
		m.base = true
		m.reset(1 - m.area)
		base := api.Base{Epoch: m.epoch + 1, Outs: m.with(x), Last: bare(x)}
		if _, no := codec.PutBase(base); no != api.OK || m.epoch == math.MaxInt || !m.write(1-m.area, baseFrame(base)) {
			return api.ErrFull
		}
	}
	m.next = &x
	return api.OK
}

func (m *model) publish() api.Errno {
	if m.next == nil {
		return api.ErrState
	}
	if m.base {
		m.area, m.epoch = 1-m.area, m.epoch+1
	}
	m.loose[m.area] = 0
	m.commit()
	return api.OK
}

func (m *model) commit() {
	m.outs, m.last, m.some, m.next = m.with(*m.next), bare(*m.next), true, nil
}

// crash loses bytes; what was prepared counts if all of its bytes stay.
func (m *model) crash(keep int) {
	at := m.area
	if m.base {
		at = 1 - at
	}
	stays := m.next != nil && m.loose[at] <= keep
	for i, n := range m.loose {
		lost := n - min(max(keep, 0), n)
		if lost > 0 && m.next != nil && i == at {
			lost = n // the torn frame is cut off when the log is opened
		}
		m.areas[i], m.loose[i] = m.areas[i][:len(m.areas[i])-lost], 0
	}
	if stays {
		if m.base {
			m.area, m.epoch = 1-m.area, m.epoch+1
		}
		m.commit()
	}
	m.next = nil
}

func check(t *testing.T, d *disk.Disk, s *store.Store, m *model) {
	t.Helper()
	if s.Pending() != (m.next != nil) {
		t.Fatal("Pending", s.Pending())
	}
	if got, some := s.Latest(); some != m.some || !like(got, m.last) || len(got.Outs) != 0 {
		t.Fatal("Latest", got, some, "want", m.last, m.some)
	}
	for op := -1; op <= len(m.outs)+1; op++ {
		var want []api.Rec
		if op >= 0 && op < len(m.outs) {
			want = m.outs[op]
		}
		if got := s.Output(op); !slices.Equal(got, want) {
			t.Fatal("Output", op, got, "want", want)
		}
	}
	for i := range 2 {
		if !bytes.Equal(d.Bytes(i), m.areas[i]) {
			t.Fatalf("area %d has %x, want %x", i, d.Bytes(i), m.areas[i])
		}
	}
}

func someManifest(r *rand.Rand, no, base int) api.Manifest {
	m := api.Manifest{No: no, Par: []int{1 + r.Intn(3), 2}, Offsets: [][]int{{r.Intn(9), 1}, nil}}
	for range r.Intn(3) {
		m.Rows = append(m.Rows, []api.Row{{Key: r.Intn(5), Cell: api.Cell{Acc: r.Intn(100), N: 1}}})
	}
	for range r.Intn(4) {
		var l []api.Rec
		for range r.Intn(3) {
			base++
			l = append(l, rec(base))
		}
		m.Outs = append(m.Outs, l)
	}
	return m
}

// P17.1 to P17.6: any calls and crashes, against a model that has the disk's bytes, too.
func TestAnyCalls(t *testing.T) {
	r := rand.New(rand.NewSource(17))
	bases, full := 0, 0
	for range 600 {
		m := &model{size: 64 + r.Intn(300)}
		d := newDisk(t, m.size)
		s := store.Open(d)
		for i := range 60 {
			before := m.outs
			switch r.Intn(9) {
			case 0, 1, 2:
				x := someManifest(r, m.last.No+r.Intn(4)-r.Intn(2), 100*i)
				want := m.prepare(x)
				if got := s.Prepare(x); got != want {
					t.Fatal("Prepare", x, got, "want", want)
				}
				if want == api.OK && m.base {
					bases++
				}
				if want == api.ErrFull {
					full++
				}
			case 3, 4, 5, 6:
				if got, want := s.Publish(), m.publish(); got != want {
					t.Fatal("Publish", got, want)
				}
			case 7:
				keep := []int{0, -1, r.Intn(80), r.Intn(400), math.MaxInt}[r.Intn(5)]
				m.crash(keep)
				d.Crash(keep)
				s = store.Open(d)
				check(t, d, s, m)
				s = store.Open(d)
			case 8: // it's opened anew without a crash
				m.crash(math.MaxInt)
				s = store.Open(d)
			}
			check(t, d, s, m)
			for op, l := range before {
				if len(m.outs[op]) < len(l) || !slices.Equal(s.Output(op)[:len(l)], l) {
					t.Fatal("what was committed got shorter", op)
				}
			}
		}
	}
	if bases < 100 || full < 20 {
		t.Error("too few bases, or full disks", bases, full)
	}
}

// opened is a store on a disk with these bytes.
func opened(t *testing.T, zero, one []byte) (*disk.Disk, *store.Store) {
	t.Helper()
	d := newDisk(t, 1000)
	d.Write(0, zero)
	d.Write(1, one)
	return d, store.Open(d)
}

func join(l ...[]byte) []byte { return bytes.Join(l, nil) }

// P17.1: which area is the current one, and what it has.
func TestOpen(t *testing.T) {
	base := func(epoch, no int, vals ...int) []byte {
		x := checkpoint(no, vals...)
		return baseFrame(api.Base{Epoch: epoch, Outs: x.Outs, Last: bare(x)})
	}
	put := func(no int, vals ...int) []byte { return manifestFrame(checkpoint(no, vals...)) }
	outs := baseFrame(api.Base{Epoch: 1, Outs: checkpoint(0, 8).Outs, Last: checkpoint(3, 9)})
	for _, x := range []struct {
		name      string
		zero, one []byte
		area      int // the one that is current
		left      int // how many bytes it has then
		no        int
		some      bool
		vals      []int
	}{
		{"empty", nil, nil, 0, 0, 0, false, nil},
		{"checkpoints", join(put(1, 5), put(4, 6, 7)), nil, 0, len(put(1, 5)) + len(put(4, 6, 7)), 4, true, []int{5, 6, 7}},
		{"checkpoints in area 1 alone", nil, put(1, 5), 0, 0, 0, false, nil},
		{"a base in area 0", base(1, 3, 5), put(9, 9), 0, len(base(1, 3, 5)), 3, true, []int{5}},
		{"a base in area 1", join(put(1, 5), put(2, 6)), base(1, 3, 5, 6, 7), 1, len(base(1, 3, 5, 6, 7)), 3, true, []int{5, 6, 7}},
		{"a lesser base in area 1", base(2, 7, 8), base(1, 3, 5), 0, len(base(2, 7, 8)), 7, true, []int{8}},
		{"a greater base in area 1", base(2, 7, 8), base(3, 3, 5), 1, len(base(3, 3, 5)), 3, true, []int{5}},
		{"equal bases", base(2, 7, 8), base(2, 3, 5), 0, len(base(2, 7, 8)), 7, true, []int{8}},
		{"the greatest Epoch", base(math.MaxInt-1, 7, 8), base(math.MaxInt, 3, 5), 1, len(base(math.MaxInt, 3, 5)), 3, true, []int{5}},
		{"Epoch 0", base(0, 7, 8), nil, 0, 0, 0, false, nil},
		{"Epoch 0 in area 1", put(1, 5), base(0, 7, 8), 0, len(put(1, 5)), 1, true, []int{5}},
		{"a negative Epoch", join(base(-1, 7, 8), put(9)), nil, 0, 0, 0, false, nil},
		{"a base that is none", join(framed(api.FBase, []byte{2}), put(1, 5)), nil, 0, 0, 0, false, nil},
		{"a base in area 1 that is none", put(1, 5), framed(api.FBase, []byte{2}), 0, len(put(1, 5)), 1, true, []int{5}},
		{"a checkpoint's kind with a base's body", framed(api.FManifest, base(5, 1)[9:]), nil, 0, 0, 0, false, nil},
		{"a base's body of another kind, in area 1", put(1, 5), framed(3, base(5, 1)[9:]), 0, len(put(1, 5)), 1, true, []int{5}},
		{"a base behind a checkpoint", join(put(1, 5), base(1, 3, 9), put(2, 6)), nil, 0, len(put(1, 5)), 1, true, []int{5}},
		{"a base behind a checkpoint in area 1", put(1, 5), join(put(1, 7), base(9, 3, 9)), 0, len(put(1, 5)), 1, true, []int{5}},
		{"checkpoints behind a base", join(base(1, 3, 5), put(4, 6), put(5, 7)), nil, 0, len(join(base(1, 3, 5), put(4, 6), put(5, 7))), 5, true, []int{5, 6, 7}},
		{"checkpoints behind a base in area 1", put(1, 9), join(base(1, 3, 5), put(4, 6)), 1, len(join(base(1, 3, 5), put(4, 6))), 4, true, []int{5, 6}},
		{"the same No behind a base", join(base(1, 3, 5), put(3, 6), put(5, 7)), nil, 0, len(base(1, 3, 5)), 3, true, []int{5}},
		{"the same No again", join(put(2, 5), put(2, 6), put(5, 7)), nil, 0, len(put(2, 5)), 2, true, []int{5}},
		{"a lesser No", join(put(2, 5), put(1, 6), put(5, 7)), nil, 0, len(put(2, 5)), 2, true, []int{5}},
		{"No 0", join(put(0, 5), put(1, 6)), nil, 0, 0, 0, false, nil},
		{"another kind", join(put(1, 5), framed(7, nil), put(2, 6)), nil, 0, len(put(1, 5)), 1, true, []int{5}},
		{"another kind with a checkpoint's body", join(put(1, 5), framed(7, put(2, 6)[9:])), nil, 0, len(put(1, 5)), 1, true, []int{5}},
		{"no checkpoint", join(put(1, 5), framed(api.FManifest, []byte{1}), put(2, 6)), nil, 0, len(put(1, 5)), 1, true, []int{5}},
		{"a torn end", join(put(1, 5), put(2, 6)[:12]), nil, 0, len(put(1, 5)), 1, true, []int{5}},
		{"a base's checkpoint with Outs", outs, nil, 0, len(outs), 3, true, []int{8}},
		{"a base with No 0", base(1, 0, 5), nil, 0, len(base(1, 0, 5)), 0, true, []int{5}},
		{"a base with No -5", join(base(1, -5, 5), put(-4, 6), put(0, 7)), nil, 0, len(join(base(1, -5, 5), put(-4, 6), put(0, 7))), 0, true, []int{5, 6, 7}},
	} {
		d, s := opened(t, x.zero, x.one)
		for range 2 {
			m, some := s.Latest()
			if some != x.some || m.No != x.no || len(m.Outs) != 0 || s.Pending() {
				t.Error(x.name, "Latest", m, some)
			}
			var want []api.Rec
			for _, v := range x.vals {
				want = append(want, rec(v))
			}
			if got := s.Output(0); !slices.Equal(got, want) {
				t.Error(x.name, "Output", got, want)
			}
			whole := [2][]byte{x.zero, x.one}[x.area]
			if !bytes.Equal(d.Bytes(x.area), whole[:x.left]) {
				t.Error(x.name, "bytes left", len(d.Bytes(x.area)), x.left)
			}
			s = store.Open(d)
		}
	}
}

// P17.2: which error comes first, and what stays then.
func TestPrepareErrors(t *testing.T) {
	d := newDisk(t, 100)
	s := store.Open(d)
	many := api.Manifest{No: 2, Par: make([]int, 13)}
	if no := s.Prepare(many); no != api.ErrMany || s.Pending() {
		t.Error("ErrMany", no)
	}
	many.No = 0
	if no := s.Prepare(many); no != api.ErrOrder {
		t.Error("ErrOrder ahead of ErrMany", no)
	}
	if no := s.Prepare(checkpoint(-1)); no != api.ErrOrder {
		t.Error("a No below 0", no)
	}
	if s.Prepare(checkpoint(3, 5)) != api.OK || !s.Pending() {
		t.Error("Prepare")
	}
	if no := s.Prepare(checkpoint(2)); no != api.ErrState {
		t.Error("ErrState ahead of ErrOrder", no)
	}
	if s.Publish() != api.OK || s.Publish() != api.ErrState || s.Pending() {
		t.Error("Publish")
	}
	if no := s.Prepare(checkpoint(3)); no != api.ErrOrder {
		t.Error("the same No", no)
	}
	var vals []int
	for i := range 200 {
		vals = append(vals, i)
	}
	before := d.Bytes(0)
	if no := s.Prepare(checkpoint(4, vals...)); no != api.ErrFull || s.Pending() || len(d.Bytes(1)) != 0 || !bytes.Equal(d.Bytes(0), before) {
		t.Error("ErrFull", no)
	}
	if m, some := s.Latest(); !some || m.No != 3 || len(s.Output(0)) != 1 {
		t.Error("behind ErrFull", m, some)
	}
	if s.Prepare(checkpoint(4, 6)) != api.OK || s.Publish() != api.OK || !slices.Equal(s.Output(0), []api.Rec{rec(5), rec(6)}) {
		t.Error("a smaller one, behind ErrFull")
	}
}

// P17.2: an Epoch that is no int, and a base that has no encoding.
func TestNoBase(t *testing.T) {
	x := checkpoint(1, 5)
	last := baseFrame(api.Base{Epoch: math.MaxInt, Outs: x.Outs, Last: bare(x)})
	d := newDisk(t, 64)
	d.Write(0, last)
	d.Write(1, []byte("rest"))
	s := store.Open(d)
	no := api.OK
	for i := 2; no == api.OK; i++ {
		if no = s.Prepare(checkpoint(i)); no == api.OK {
			s.Publish()
		}
	}
	if no != api.ErrFull || s.Pending() || len(d.Bytes(1)) != 0 || len(s.Output(0)) != 1 {
		t.Error("an Epoch above the greatest int", no, d.Bytes(1))
	}
}

// P17.3: a base that is prepared isn't the store's ahead of Publish.
func TestBase(t *testing.T) {
	d := newDisk(t, 64)
	s := store.Open(d)
	for no := 1; ; no++ {
		if s.Prepare(checkpoint(no, no)) != api.OK {
			t.Fatal("no room for a base", no)
		}
		if len(d.Bytes(1)) > 0 {
			if m, _ := s.Latest(); m.No != no-1 || len(s.Output(0)) != no-1 || !s.Pending() {
				t.Error("ahead of Publish", m)
			}
			s.Publish()
			f, _ := frame.Scan(d.Bytes(1))
			x, fine := codec.GetBase(f[0].Body)
			if len(f) != 1 || f[0].Kind != api.FBase || fine != api.OK || x.Epoch != 1 || len(x.Outs[0]) != no || x.Last.No != no || x.Last.Outs != nil {
				t.Error("the base", f, x)
			}
			if m, _ := s.Latest(); m.No != no || len(s.Output(0)) != no {
				t.Error("behind Publish", m)
			}
			d.Crash(0)
			if m, _ := store.Open(d).Latest(); m.No != no {
				t.Error("a published base didn't last", m)
			}
			return
		}
		s.Publish()
	}
}

// R3
func TestMemory(t *testing.T) {
	d := newDisk(t, 500)
	s := store.Open(d)
	m := api.Manifest{No: 1, Par: []int{1}, Offsets: [][]int{{2}}, Rows: [][]api.Row{{{Key: 3, Cell: api.Cell{N: 1}}}}, Outs: [][]api.Rec{{rec(5)}, nil, {rec(6)}}}
	spoil := func(m api.Manifest) {
		m.Par[0], m.Offsets[0][0], m.Rows[0][0].Key = 91, 92, 93
		m.Offsets[0], m.Rows[0] = nil, nil
	}
	want := bare(m)
	want.Par, want.Offsets, want.Rows = []int{1}, [][]int{{2}}, [][]api.Row{{{Key: 3, Cell: api.Cell{N: 1}}}}
	s.Prepare(m)
	spoil(m)
	m.Outs[0][0] = rec(94)
	s.Publish()
	got, _ := s.Latest()
	if !like(got, want) || len(got.Outs) != 0 || !slices.Equal(s.Output(0), []api.Rec{rec(5)}) {
		t.Error("an argument was kept", got, s.Output(0))
	}
	spoil(got)
	s.Output(0)[0] = rec(95)
	if got, _ := s.Latest(); !like(got, want) || len(got.Outs) != 0 || !slices.Equal(s.Output(0), []api.Rec{rec(5)}) || len(s.Output(1)) != 0 || !slices.Equal(s.Output(2), []api.Rec{rec(6)}) {
		t.Error("an answer shares memory", got)
	}
}

func TestExamples(t *testing.T) {
	d := newDisk(t, 64)
	s := store.Open(d)
	one := func(no int) api.Manifest { return api.Manifest{No: no, Outs: [][]api.Rec{{{Key: 1, Val: 5}}}} }
	only := []api.Rec{{Key: 1, Val: 5}}
	if _, some := s.Latest(); some || s.Publish() != api.ErrState || s.Prepare(one(1)) != api.OK || !s.Pending() || s.Prepare(one(2)) != api.ErrState || s.Publish() != api.OK || !slices.Equal(s.Output(0), only) {
		t.Error("the first line")
	}
	if s.Prepare(one(1)) != api.ErrOrder || s.Prepare(one(2)) != api.OK {
		t.Error("the second line")
	}
	d.Crash(0)
	s = store.Open(d)
	if m, some := s.Latest(); !some || m.No != 1 || !slices.Equal(s.Output(0), only) {
		t.Error("behind the crash", m, some)
	}
}
