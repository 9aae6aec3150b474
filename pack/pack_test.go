package pack_test

import (
	"bytes"
	"encoding/binary"
	"math"
	"math/rand"
	"testing"

	"oxbow/api"
	"oxbow/pack"
)

var numbers = []int{0, -1, 1, -2, 2, 62, 63, 64, -63, -64, -65, 127, 128, 8191, 8192, -8192, -8193, 1 << 31, -1 << 31, 1 << 62, -1 << 62, 1<<55 - 1, math.MaxInt, math.MaxInt - 1, math.MinInt, math.MinInt + 1}

func some(r *rand.Rand) int { return int(r.Uint64()) >> r.Intn(64) }

// P3.1
func TestInt(t *testing.T) {
	for _, x := range []struct {
		n    int
		want []byte
	}{{0, []byte{0}}, {-1, []byte{1}}, {-2, []byte{3}}, {63, []byte{0x7E}}, {64, []byte{0x80, 1}}, {math.MinInt, []byte{255, 255, 255, 255, 255, 255, 255, 255, 255, 1}}} {
		if got := pack.Int(nil, x.n); !bytes.Equal(got, x.want) {
			t.Errorf("Int of %d: %x", x.n, got)
		}
	}
	r := rand.New(rand.NewSource(1))
	l := numbers
	for range 5000 {
		l = append(l, some(r))
	}
	for _, n := range l { // the library's signed varints are zigzag codes in base 128, too
		want := binary.AppendVarint([]byte("ab"), int64(n))
		if got := pack.Int([]byte("ab"), n); !bytes.Equal(got, want) {
			t.Errorf("Int of %d behind two bytes: %x, want %x", n, got, want)
		}
	}
}

// P3.1
func TestBlob(t *testing.T) {
	if got := pack.Blob(nil, []byte{5, 6}); !bytes.Equal(got, []byte{4, 5, 6}) {
		t.Errorf("%x", got)
	}
	if got := pack.Blob([]byte{9}, nil); !bytes.Equal(got, []byte{9, 0}) {
		t.Errorf("%x", got)
	}
	long := bytes.Repeat([]byte{7}, 64)
	if got := pack.Blob([]byte{9}, long); !bytes.Equal(got, append([]byte{9, 0x80, 1}, long...)) {
		t.Errorf("%x", got)
	}
}

// R3
func TestNewMemory(t *testing.T) {
	room := []byte("abcdefghijklmnopqrstuvwxyz")
	x := []byte("xy")
	a := pack.Int(room[:3], 1000000)
	b := pack.Blob(room[:3], x)
	if string(room) != "abcdefghijklmnopqrstuvwxyz" {
		t.Error("bytes behind the argument were changed", string(room))
	}
	a[0], b[0], b[len(b)-1] = '!', '!', '!'
	if room[0] != 'a' || x[1] != 'y' {
		t.Error("the result shares the argument's memory")
	}
	in := []byte{4, 5, 6, 4, 7, 8}
	r := pack.From(in)
	first := r.Blob()
	in[4] = 99
	first[0] = 99
	_ = append(first, 99, 99)
	if got := r.Blob(); !bytes.Equal(got, []byte{7, 8}) {
		t.Error("the reader kept its argument", got)
	}
	if in[1] != 5 {
		t.Error("what was read shares the argument's memory")
	}
}

// reading is a reader that was left behind some reads.
type reading struct {
	name  string
	bytes []byte
	read  func(r *pack.Reader) any
	want  any
	done  api.Errno
}

func nines(n int, more ...byte) []byte { return append(bytes.Repeat([]byte{255}, n), more...) }

func integer(r *pack.Reader) any { return r.Int() }

func counted(most int) func(r *pack.Reader) any {
	return func(r *pack.Reader) any { return r.Count(most) }
}

func blob(r *pack.Reader) any { return string(r.Blob()) }

// P3.3, P3.4
func TestReads(t *testing.T) {
	for _, x := range []reading{
		{"nothing", nil, integer, 0, api.ErrShort},
		{"one open byte", []byte{0x80}, integer, 0, api.ErrShort},
		{"nine open bytes", nines(9), integer, 0, api.ErrShort},
		{"nine open bytes of zeros", bytes.Repeat([]byte{0x80}, 9), integer, 0, api.ErrShort},
		{"ten open bytes", nines(10), integer, 0, api.ErrLong},
		{"ten open bytes, and a last one", nines(10, 0), integer, 0, api.ErrLong},
		{"many open bytes", nines(30), integer, 0, api.ErrLong},
		{"a tenth byte of 1", nines(9, 1), integer, math.MinInt, api.OK},
		{"a tenth byte of 2", nines(9, 2), integer, 0, api.ErrLong},
		{"a tenth byte of 0x7f", nines(9, 0x7f), integer, 0, api.ErrLong},
		{"a tenth byte of 0", nines(9, 0), integer, 0, api.ErrLong},
		{"the greatest", append([]byte{0xfe}, nines(8, 1)...), integer, math.MaxInt, api.OK},
		{"a last byte of 0", []byte{0x80, 0}, integer, 0, api.ErrLong},
		{"a later last byte of 0", []byte{0x81, 0x80, 0}, integer, 0, api.ErrLong},
		{"zero", []byte{0}, integer, 0, api.OK},
		{"a byte is left", []byte{0, 0}, integer, 0, api.ErrLong},
		{"one, and more", []byte{2, 9, 9}, integer, 1, api.ErrLong},
		{"count at its most", []byte{4}, counted(2), 2, api.OK},
		{"count above its most", []byte{6}, counted(2), 0, api.ErrMany},
		{"count above its most, bytes behind", []byte{6, 1, 1}, counted(2), 0, api.ErrMany},
		{"count below 0", []byte{1}, counted(2), 0, api.ErrMany},
		{"count of the least int", nines(9, 1), counted(math.MaxInt), 0, api.ErrMany},
		{"count 0 of 0", []byte{0}, counted(0), 0, api.OK},
		{"count 0 of -1", []byte{0}, counted(-1), 0, api.ErrMany},
		{"count -1 of -1", []byte{1}, counted(-1), 0, api.ErrMany},
		{"count, short", []byte{0x80}, counted(0), 0, api.ErrShort},
		{"count, long", []byte{0x86, 0}, counted(0), 0, api.ErrLong},
		{"blob", []byte{4, 5, 6}, blob, "\x05\x06", api.OK},
		{"blob, bytes behind", []byte{2, 5, 6}, blob, "\x05", api.ErrLong},
		{"blob of nothing", []byte{0}, blob, "", api.OK},
		{"short blob", []byte{4, 5}, blob, "", api.ErrShort},
		{"blob of a negative length", []byte{1, 5}, blob, "", api.ErrMany},
		{"blob of 2^31 - 1", pack.Int(nil, math.MaxInt32), blob, "", api.ErrShort},
		{"blob of 2^31", pack.Int(nil, math.MaxInt32+1), blob, "", api.ErrMany},
		{"blob without a length", []byte{0x80}, blob, "", api.ErrShort},
		{"blob with a long length", []byte{0x80, 0}, blob, "", api.ErrLong},
	} {
		r := pack.From(x.bytes)
		if got := x.read(r); got != x.want {
			t.Errorf("%s: %v, want %v", x.name, got, x.want)
		}
		for range 2 {
			if got := r.Done(); got != x.done {
				t.Errorf("%s: Done %d, want %d", x.name, got, x.done)
			}
		}
	}
}

// P3.2
func TestAfterAFailure(t *testing.T) {
	for _, x := range []reading{
		{"int", []byte{0x80, 0, 2, 2, 2, 2}, integer, 0, api.ErrLong},
		{"count", []byte{6, 2, 2, 2, 2}, counted(2), 0, api.ErrMany},
		{"blob", []byte{8, 2, 2, 2}, blob, "", api.ErrShort},
	} {
		r := pack.From(x.bytes)
		for range 3 {
			if got := x.read(r); got != x.want {
				t.Errorf("%s: %v", x.name, got)
			}
			if r.Int() != 0 || r.Count(100) != 0 || len(r.Blob()) != 0 {
				t.Errorf("%s: a read behind it isn't zero", x.name)
			}
			if got := r.Done(); got != x.done {
				t.Errorf("%s: Done %d, want the first error, %d", x.name, got, x.done)
			}
		}
	}
	r := pack.From([]byte{2, 4, 6, 1})
	if r.Int() != 1 || r.Int() != 2 || r.Done() != api.ErrLong || r.Int() != 3 || r.Int() != -1 || r.Done() != api.OK {
		t.Error("Done stopped the reads behind it")
	}
	if r.Int() != 0 || r.Done() != api.ErrShort {
		t.Error("a read at the end")
	}
}

// P3.5
func TestRoundTrip(t *testing.T) {
	r := rand.New(rand.NewSource(3))
	for range 300 {
		var b []byte
		var l []int
		for range r.Intn(20) {
			n := some(r)
			l = append(l, n)
			b = pack.Int(b, n)
			b = pack.Blob(b, bytes.Repeat([]byte{byte(n)}, n&15))
		}
		in := pack.From(b)
		var again []byte
		for _, n := range l {
			got, x := in.Int(), in.Blob()
			if got != n || !bytes.Equal(x, bytes.Repeat([]byte{byte(n)}, n&15)) {
				t.Fatal("read", got, x, "want", n)
			}
			again = pack.Blob(pack.Int(again, got), x)
		}
		if in.Done() != api.OK || !bytes.Equal(again, b) {
			t.Fatal("bytes are left, or others come back")
		}
	}
	for range 20000 { // any bytes that are read are the encoding of what was read
		b := make([]byte, r.Intn(12))
		for i := range b {
			b[i] = byte(r.Intn(256)) | byte(r.Intn(2))<<7
		}
		in := pack.From(b)
		n := in.Int()
		if no := in.Done(); no == api.OK && !bytes.Equal(pack.Int(nil, n), b) {
			t.Fatal("two encodings of", n, b)
		}
	}
}

func TestExamples(t *testing.T) {
	r := pack.From([]byte{0x80, 0})
	if r.Int() != 0 || r.Done() != api.ErrLong {
		t.Error("80 00")
	}
	r = pack.From([]byte{4, 5})
	if len(r.Blob()) != 0 || r.Int() != 0 || r.Done() != api.ErrShort {
		t.Error("04 05")
	}
	r = pack.From([]byte{6})
	if r.Count(2) != 0 || r.Done() != api.ErrMany {
		t.Error("06")
	}
}
