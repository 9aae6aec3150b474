package wal_test

import (
	"bytes"
	"math/rand"
	"testing"

	"oxbow/api"
	"oxbow/disk"
	"oxbow/frame"
	"oxbow/wal"
)

func newDisk(t *testing.T, n int) *disk.Disk {
	t.Helper()
	d, no := disk.New(n)
	if no != api.OK {
		t.Fatal("disk.New", no)
	}
	return d
}

func of(kind int, body string) api.Frame { return api.Frame{Kind: kind, Body: []byte(body)} }

func bytesOf(l ...api.Frame) []byte {
	var b []byte
	for _, f := range l {
		x, _ := frame.Put(f)
		b = append(b, x...)
	}
	return b
}

func same(a, b []api.Frame) bool {
	if len(a) != len(b) {
		return false
	}
	for i := range a {
		if a[i].Kind != b[i].Kind || !bytes.Equal(a[i].Body, b[i].Body) {
			return false
		}
	}
	return true
}

// P16.1: what is behind the last complete frame is cut off, for good.
func TestOpen(t *testing.T) {
	whole := bytesOf(of(1, "abc"), of(2, ""))
	for _, junk := range [][]byte{nil, {1}, bytesOf(of(3, "x"))[:9], make([]byte, 12), append(make([]byte, 9), whole...)} {
		for area := range 2 {
			d := newDisk(t, 200)
			d.Write(area, append(bytes.Clone(whole), junk...))
			d.Write(1-area, []byte("junk"))
			l, got := wal.Open(d, area)
			if !same(got, []api.Frame{of(1, "abc"), of(2, "")}) || !bytes.Equal(d.Bytes(area), whole) {
				t.Error("Open", junk, got, d.Bytes(area))
			}
			if string(d.Bytes(1-area)) != "junk" || l.Room() != 200-len(whole) {
				t.Error("the other area, Room", l.Room())
			}
			d.Crash(0) // cutting makes what stays last
			if !bytes.Equal(d.Bytes(area), whole) {
				t.Error("what was opened didn't last", d.Bytes(area))
			}
		}
	}
	if l, got := wal.Open(newDisk(t, 64), 0); l == nil || len(got) != 0 || l.Room() != 64 {
		t.Error("an empty area", got)
	}
}

// P16.2
func TestAppend(t *testing.T) {
	d := newDisk(t, 64)
	l, _ := wal.Open(d, 1)
	for _, x := range []struct {
		f  api.Frame
		no api.Errno
	}{
		{api.Frame{Kind: 0}, api.ErrKind},
		{api.Frame{Kind: -3}, api.ErrKind},
		{api.Frame{Kind: 256, Body: make([]byte, api.MaxDisk+1)}, api.ErrKind},
		{api.Frame{Kind: 1, Body: make([]byte, api.MaxDisk+1)}, api.ErrLong},
		{api.Frame{Kind: 1, Body: make([]byte, api.MaxDisk)}, api.ErrFull},
		{api.Frame{Kind: 1, Body: make([]byte, 56)}, api.ErrFull},
	} {
		if no := l.Append(x.f); no != x.no || len(d.Bytes(1)) != 0 || l.Room() != 64 {
			t.Error("Append of kind", x.f.Kind, len(x.f.Body), no, "want", x.no)
		}
	}
	full := of(255, "0123456789012345678901234567890123456789012345678901234")
	if no := l.Append(full); no != api.OK || l.Room() != 0 || !bytes.Equal(d.Bytes(1), bytesOf(full)) {
		t.Error("a frame that just fits", no, l.Room())
	}
	if l.Append(of(1, "")) != api.ErrFull || l.Append(of(0, "")) != api.ErrKind || len(d.Bytes(0)) != 0 {
		t.Error("once it's full")
	}
}

// P16.2: nothing lasts ahead of Sync; Reset lasts at once.
func TestSyncAndReset(t *testing.T) {
	d := newDisk(t, 100)
	l, _ := wal.Open(d, 0)
	other, _ := wal.Open(d, 1)
	l.Append(of(1, "a"))
	other.Append(of(2, "b"))
	l.Sync()
	d.Crash(0)
	if !bytes.Equal(d.Bytes(0), bytesOf(of(1, "a"))) || len(d.Bytes(1)) != 0 {
		t.Error("Sync of one area", d.Bytes(0), d.Bytes(1))
	}
	l.Append(of(1, "c"))
	l.Reset()
	if len(d.Bytes(0)) != 0 || l.Room() != 100 {
		t.Error("Reset", d.Bytes(0))
	}
	d.Crash(100)
	if len(d.Bytes(0)) != 0 {
		t.Error("Reset didn't last", d.Bytes(0))
	}
	l.Append(of(3, "d"))
	l.Sync()
	if _, got := wal.Open(d, 0); !same(got, []api.Frame{of(3, "d")}) {
		t.Error("behind Reset", got)
	}
}

// P16.3
func TestDurability(t *testing.T) {
	r := rand.New(rand.NewSource(16))
	for range 1000 {
		d := newDisk(t, 64+r.Intn(300))
		l, _ := wal.Open(d, 0)
		var all []api.Frame
		synced := 0
		for range 30 {
			switch r.Intn(7) {
			case 0:
				l.Sync()
				synced = len(all)
			case 1:
				keep := r.Intn(60)
				d.Crash(keep)
				whole := synced
				for whole < len(all) && len(bytesOf(all[synced:whole+1]...)) <= keep {
					whole++
				}
				all, synced = all[:whole], whole
				next, got := wal.Open(d, 0)
				if !same(got, all) {
					t.Fatal("Open", got, "want", all)
				}
				l = next
			default:
				body := make([]byte, r.Intn(12))
				r.Read(body)
				f := api.Frame{Kind: 1 + r.Intn(255), Body: body}
				want := api.OK
				if len(bytesOf(f)) > l.Room() {
					want = api.ErrFull
				} else {
					all = append(all[:len(all):len(all)], f)
				}
				if got := l.Append(f); got != want {
					t.Fatal("Append", got, want)
				}
			}
		}
		if _, got := wal.Open(d, 0); !same(got, all) {
			t.Fatal("at the end", got, "want", all)
		}
	}
}

// R3
func TestMemory(t *testing.T) {
	d := newDisk(t, 64)
	l, _ := wal.Open(d, 0)
	body := []byte("abc")
	l.Append(api.Frame{Kind: 1, Body: body})
	body[0] = '!'
	_, got := wal.Open(d, 0)
	if string(got[0].Body) != "abc" {
		t.Error("the body was kept", got)
	}
	got[0].Body[0] = '?'
	if _, again := wal.Open(d, 0); string(again[0].Body) != "abc" {
		t.Error("an answer shares memory", again)
	}
}

func TestExamples(t *testing.T) {
	a, b := of(1, "first"), of(2, "second")
	for keep, want := range map[int][]api.Frame{5: {a}, 1000: {a, b}} {
		d := newDisk(t, 64)
		l, _ := wal.Open(d, 0)
		l.Append(a)
		l.Sync()
		l.Append(b)
		d.Crash(keep)
		if _, got := wal.Open(d, 0); !same(got, want) {
			t.Error("kept", keep, got)
		}
	}
}
