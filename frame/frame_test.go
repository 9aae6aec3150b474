package frame_test

import (
	"bytes"
	"encoding/binary"
	"hash/crc32"
	"math"
	"math/rand"
	"testing"

	"oxbow/api"
	"oxbow/frame"
)

// encoded is a frame's bytes, as the chapter defines them; of any length that is told, and any kind.
func encoded(size uint32, kind byte, body []byte) []byte {
	b := binary.LittleEndian.AppendUint32(nil, size)
	b = append(b, kind)
	b = binary.LittleEndian.AppendUint32(b, crc32.ChecksumIEEE(append([]byte{kind}, body...)))
	return append(b, body...)
}

func good(kind byte, body []byte) []byte { return encoded(uint32(len(body)), kind, body) }

// P4.1
func TestPut(t *testing.T) {
	big := bytes.Repeat([]byte{3}, api.MaxDisk+1)
	for _, x := range []struct {
		f  api.Frame
		no api.Errno
	}{
		{api.Frame{Kind: 1}, api.OK},
		{api.Frame{Kind: 255, Body: []byte{1, 2, 3}}, api.OK},
		{api.Frame{Kind: 7, Body: big[1:]}, api.OK},
		{api.Frame{Kind: 7, Body: big}, api.ErrLong},
		{api.Frame{Kind: 0, Body: big}, api.ErrKind},
		{api.Frame{Kind: 0}, api.ErrKind},
		{api.Frame{Kind: -1}, api.ErrKind},
		{api.Frame{Kind: 256}, api.ErrKind},
		{api.Frame{Kind: 257}, api.ErrKind},
		{api.Frame{Kind: math.MinInt}, api.ErrKind},
	} {
		got, no := frame.Put(x.f)
		if no != x.no || no != api.OK && len(got) != 0 {
			t.Errorf("Put of kind %d and %d bytes: error %d, %d bytes", x.f.Kind, len(x.f.Body), no, len(got))
		}
		if no == api.OK && !bytes.Equal(got, good(byte(x.f.Kind), x.f.Body)) {
			t.Errorf("Put of kind %d and %d bytes: %x..", x.f.Kind, len(x.f.Body), got[:9])
		}
	}
}

// P4.2
func TestGet(t *testing.T) {
	bad := good(2, []byte("abc"))
	bad[5] ^= 1
	high := good(2, []byte("abc"))
	high[8] ^= 0x80
	kind := good(2, []byte("abc"))
	kind[4] = 3
	body := good(2, []byte("abc"))
	body[11] ^= 0x10
	most := bytes.Repeat([]byte{5}, api.MaxDisk)
	for _, x := range []struct {
		name string
		b    []byte
		f    api.Frame
		n    int
		no   api.Errno
	}{
		{"nothing", nil, api.Frame{}, 0, api.ErrShort},
		{"eight bytes", good(1, nil)[:8], api.Frame{}, 0, api.ErrShort},
		{"eight bytes of 255", bytes.Repeat([]byte{255}, 8), api.Frame{}, 0, api.ErrShort},
		{"nine bytes of 255", bytes.Repeat([]byte{255}, 9), api.Frame{}, 0, api.ErrLong},
		{"nine bytes of 0", make([]byte, 9), api.Frame{}, 0, api.ErrKind},
		{"too long, and of kind 0", encoded(api.MaxDisk+1, 0, nil), api.Frame{}, 0, api.ErrLong},
		{"the greatest length, of kind 0, and short", encoded(api.MaxDisk, 0, nil), api.Frame{}, 0, api.ErrKind},
		{"the greatest length, and short", encoded(api.MaxDisk, 1, nil), api.Frame{}, 0, api.ErrShort},
		{"the greatest length", good(9, most), api.Frame{Kind: 9, Body: most}, 9 + api.MaxDisk, api.OK},
		{"no body", good(1, nil), api.Frame{Kind: 1}, 9, api.OK},
		{"bytes behind it", append(good(255, []byte("abc")), 1, 2), api.Frame{Kind: 255, Body: []byte("abc")}, 12, api.OK},
		{"a byte lacks", good(2, []byte("abc"))[:11], api.Frame{}, 0, api.ErrShort},
		{"a byte lacks of one with a wrong checksum", bad[:11], api.Frame{}, 0, api.ErrShort},
		{"wrong checksum", bad, api.Frame{}, 0, api.ErrSum},
		{"wrong high byte of the checksum", high, api.Frame{}, 0, api.ErrSum},
		{"another kind", kind, api.Frame{}, 0, api.ErrSum},
		{"another body", body, api.Frame{}, 0, api.ErrSum},
		{"kind 0 with a wrong checksum", make([]byte, 20), api.Frame{}, 0, api.ErrKind},
	} {
		f, n, no := frame.Get(x.b)
		if f.Kind != x.f.Kind || !bytes.Equal(f.Body, x.f.Body) || n != x.n || no != x.no {
			t.Errorf("%s: kind %d, %d bytes of body, %d bytes in all, error %d", x.name, f.Kind, len(f.Body), n, no)
		}
	}
}

func same(a, b []api.Frame) bool {
	if len(a) != len(b) {
		return false
	}
	for i := range a {
		if a[i].Kind != b[i].Kind || !bytes.Equal(a[i].Body, b[i].Body) {
			return false
		}
	}
	return true
}

// P4.3, P4.4
func TestScan(t *testing.T) {
	frames := []api.Frame{{Kind: 1, Body: []byte("abc")}, {Kind: 2}, {Kind: 200, Body: bytes.Repeat([]byte{0}, 20)}, {Kind: 1, Body: []byte{9}}}
	var b []byte
	ends := []int{0}
	for _, f := range frames {
		b = append(b, good(byte(f.Kind), f.Body)...)
		ends = append(ends, len(b))
	}
	for cut := 0; cut <= len(b); cut++ {
		whole := 0
		for whole < len(frames) && ends[whole+1] <= cut {
			whole++
		}
		if l, n := frame.Scan(b[:cut]); !same(l, frames[:whole]) || n != ends[whole] {
			t.Errorf("%d bytes: %d frames, %d bytes of them", cut, len(l), n)
		}
	}
	for i := range b { // a bit that turned ends the scan at the frame that has it, at the latest
		torn := bytes.Clone(b)
		torn[i] ^= 4
		at := 0
		for ends[at+1] <= i {
			at++
		}
		if l, n := frame.Scan(torn); !same(l, frames[:at]) || n != ends[at] {
			t.Errorf("byte %d turned: %d frames, %d bytes of them", i, len(l), n)
		}
	}
	if l, n := frame.Scan(append(make([]byte, 9), b...)); len(l) != 0 || n != 0 {
		t.Error("frames behind bytes that are none", l, n)
	}
}

// P4.5
func TestRoundTrip(t *testing.T) {
	r := rand.New(rand.NewSource(1))
	for range 2000 {
		body := make([]byte, r.Intn(60))
		r.Read(body)
		f := api.Frame{Kind: 1 + r.Intn(255), Body: body}
		b, no := frame.Put(f)
		more := make([]byte, r.Intn(20))
		r.Read(more)
		got, n, fine := frame.Get(append(bytes.Clone(b), more...))
		if no != api.OK || fine != api.OK || n != len(b) || got.Kind != f.Kind || !bytes.Equal(got.Body, body) {
			t.Fatal("another frame comes back", f, got, n, no, fine)
		}
		if again, _ := frame.Put(got); !bytes.Equal(again, b) {
			t.Fatal("other bytes come back", f)
		}
	}
}

// R3
func TestNewMemory(t *testing.T) {
	body := []byte("abc")
	b, _ := frame.Put(api.Frame{Kind: 1, Body: body[:2]})
	b[9] = '!'
	if string(body) != "abc" {
		t.Error("the encoding shares the body's memory")
	}
	in := append(good(1, []byte("abc")), good(2, []byte("def"))...)
	f, _, _ := frame.Get(in)
	l, _ := frame.Scan(in)
	f.Body[0] = '!'
	l[0].Body[1] = '!'
	_ = append(l[0].Body, '?')
	if !bytes.Equal(in, append(good(1, []byte("abc")), good(2, []byte("def"))...)) || string(l[1].Body) != "def" {
		t.Error("the body shares the bytes' memory")
	}
}

func TestExamples(t *testing.T) {
	b, no := frame.Put(api.Frame{Kind: 1})
	if want := binary.LittleEndian.AppendUint32([]byte{0, 0, 0, 0, 1}, crc32.ChecksumIEEE([]byte{1})); no != api.OK || !bytes.Equal(b, want) {
		t.Errorf("%x, %d", b, no)
	}
	if _, _, no := frame.Get(b[:8]); no != api.ErrShort {
		t.Error("without the last one", no)
	}
	b[4] = 0
	if _, _, no := frame.Get(b); no != api.ErrKind {
		t.Error("of kind 0", no)
	}
}
