package codec_test

import (
	"bytes"
	"encoding/binary"
	"math"
	"math/rand"
	"reflect"
	"slices"
	"testing"

	"oxbow/api"
	"oxbow/codec"
)

// ints is numbers, encoded; the library's signed varints are what pack writes.
func ints(l ...int) []byte {
	var b []byte
	for _, n := range l {
		b = binary.AppendVarint(b, int64(n))
	}
	return b
}

func specBytes(s api.Spec) []byte {
	l := []int{s.Groups, len(s.Ops)}
	for _, o := range s.Ops {
		l = append(l, o.Kind, len(o.In))
		l = append(l, o.In...)
		l = append(l, o.Fn.Op, o.Fn.A, o.Fn.B, o.Parts, o.Rate, o.Cost)
	}
	return ints(l...)
}

func outs(l [][]api.Rec) []int {
	n := []int{len(l)}
	for _, recs := range l {
		n = append(n, len(recs))
		for _, r := range recs {
			n = append(n, r.Key, r.Val)
		}
	}
	return n
}

func manifestBytes(m api.Manifest) []byte {
	l := append([]int{m.No, len(m.Par)}, m.Par...)
	l = append(l, len(m.Offsets))
	for _, x := range m.Offsets {
		l = append(append(l, len(x)), x...)
	}
	l = append(l, len(m.Rows))
	for _, rows := range m.Rows {
		l = append(l, len(rows))
		for _, r := range rows {
			l = append(l, r.Key, r.Cell.Acc, r.Cell.N)
		}
	}
	return ints(append(l, outs(m.Outs)...)...)
}

func baseBytes(x api.Base) []byte {
	return append(ints(append([]int{x.Epoch}, outs(x.Outs)...)...), manifestBytes(x.Last)...)
}

func number(r *rand.Rand) int { return int(r.Uint64()) >> r.Intn(64) }

// list is at most n things, nil if there are none.
func list[T any](r *rand.Rand, n int, one func() T) []T {
	var l []T
	for range r.Intn(n + 1) {
		l = append(l, one())
	}
	return l
}

func anySpec(r *rand.Rand) api.Spec {
	num := func() int { return number(r) }
	return api.Spec{Groups: num(), Ops: list(r, 12, func() api.Op {
		return api.Op{Kind: num(), In: list(r, 12, num), Fn: api.Fn{Op: num(), A: num(), B: num()}, Parts: num(), Rate: num(), Cost: num()}
	})}
}

func anyOuts(r *rand.Rand) [][]api.Rec {
	return list(r, 12, func() []api.Rec {
		return list(r, 20, func() api.Rec { return api.Rec{Key: number(r), Val: number(r)} })
	})
}

func anyManifest(r *rand.Rand) api.Manifest {
	num := func() int { return number(r) }
	return api.Manifest{
		No:      num(),
		Par:     list(r, 12, num),
		Offsets: list(r, 12, func() []int { return list(r, 8, num) }),
		Rows: list(r, 12, func() []api.Row {
			return list(r, 20, func() api.Row { return api.Row{Key: num(), Cell: api.Cell{Acc: num(), N: num()}} })
		}),
		Outs: anyOuts(r),
	}
}

func anyBase(r *rand.Rand) api.Base {
	return api.Base{Epoch: number(r), Outs: anyOuts(r), Last: anyManifest(r)}
}

// trip checks what is put, and that it comes back.
func trip[T any](t *testing.T, x T, put func(T) ([]byte, api.Errno), get func([]byte) (T, api.Errno), want []byte) {
	t.Helper()
	b, no := put(x)
	if no != api.OK || !bytes.Equal(b, want) {
		t.Fatalf("Put of %v: %x, %d, want %x", x, b, no, want)
	}
	got, no := get(b)
	if no != api.OK || !reflect.DeepEqual(got, x) {
		t.Fatalf("Get: %v, %d, want %v", got, no, x)
	}
}

// P7.1, P7.2, P7.3, P7.5
func TestRoundTrip(t *testing.T) {
	r := rand.New(rand.NewSource(7))
	for range 2000 {
		s, m, x := anySpec(r), anyManifest(r), anyBase(r)
		trip(t, s, codec.PutSpec, codec.GetSpec, specBytes(s))
		trip(t, m, codec.PutManifest, codec.GetManifest, manifestBytes(m))
		trip(t, x, codec.PutBase, codec.GetBase, baseBytes(x))
	}
}

// P7.5: empty slices come back as nil ones.
func TestEmptySlices(t *testing.T) {
	m := api.Manifest{No: 3, Par: []int{}, Offsets: [][]int{{}, {4}}, Rows: [][]api.Row{{}}, Outs: [][]api.Rec{{}, nil}}
	b, no := codec.PutManifest(m)
	if want := ints(3, 0, 2, 0, 1, 4, 1, 0, 2, 0, 0); no != api.OK || !bytes.Equal(b, want) {
		t.Fatalf("%x, want %x", b, want)
	}
	got, _ := codec.GetManifest(b)
	want := api.Manifest{No: 3, Offsets: [][]int{nil, {4}}, Rows: [][]api.Row{nil}, Outs: [][]api.Rec{nil, nil}}
	if !reflect.DeepEqual(got, want) {
		t.Errorf("%#v", got)
	}
	s, _ := codec.GetSpec(ints(1, 1, 2, 0, 1, 2, 3, 4, 5, 6))
	if want := (api.Spec{Groups: 1, Ops: []api.Op{{Kind: 2, Fn: api.Fn{Op: 1, A: 2, B: 3}, Parts: 4, Rate: 5, Cost: 6}}}); !reflect.DeepEqual(s, want) {
		t.Errorf("%#v", s)
	}
}

func refused[T any](t *testing.T, name string, x T, put func(T) ([]byte, api.Errno), want api.Errno) {
	t.Helper()
	if b, no := put(x); no != want || no != api.OK && len(b) != 0 || no == api.OK && len(b) == 0 {
		t.Errorf("%s: %d bytes, %d, want %d", name, len(b), no, want)
	}
}

// P7.1 to P7.3: how many elements a list may have.
func TestMany(t *testing.T) {
	ops := make([]api.Op, 13)
	for n, want := range map[int]api.Errno{12: api.OK, 13: api.ErrMany} {
		refused(t, "operators", api.Spec{Ops: ops[:n]}, codec.PutSpec, want)
		refused(t, "inputs", api.Spec{Ops: []api.Op{{}, {In: make([]int, n)}}}, codec.PutSpec, want)
		refused(t, "Par", api.Manifest{Par: make([]int, n)}, codec.PutManifest, want)
		refused(t, "Offsets", api.Manifest{Offsets: make([][]int, n)}, codec.PutManifest, want)
		refused(t, "Rows", api.Manifest{Rows: make([][]api.Row, n)}, codec.PutManifest, want)
		refused(t, "Outs", api.Manifest{Outs: make([][]api.Rec, n)}, codec.PutManifest, want)
		refused(t, "Outs of a base", api.Base{Outs: make([][]api.Rec, n)}, codec.PutBase, want)
		refused(t, "Par of a base", api.Base{Last: api.Manifest{Par: make([]int, n)}}, codec.PutBase, want)
		refused(t, "Outs of a base's checkpoint", api.Base{Last: api.Manifest{Outs: make([][]api.Rec, n)}}, codec.PutBase, want)
	}
	for n, want := range map[int]api.Errno{8: api.OK, 9: api.ErrMany} {
		refused(t, "offsets", api.Manifest{Offsets: [][]int{nil, make([]int, n)}}, codec.PutManifest, want)
		refused(t, "offsets of a base", api.Base{Last: api.Manifest{Offsets: [][]int{make([]int, n)}}}, codec.PutBase, want)
	}
	for n, want := range map[int]api.Errno{api.MaxDisk: api.OK, api.MaxDisk + 1: api.ErrMany} {
		rows, recs := make([]api.Row, n), make([]api.Rec, n)
		refused(t, "rows", api.Manifest{Rows: [][]api.Row{nil, rows}}, codec.PutManifest, want)
		refused(t, "records", api.Manifest{Outs: [][]api.Rec{nil, recs}}, codec.PutManifest, want)
		refused(t, "records of a base", api.Base{Outs: [][]api.Rec{recs}}, codec.PutBase, want)
		refused(t, "rows of a base", api.Base{Last: api.Manifest{Rows: [][]api.Row{rows}}}, codec.PutBase, want)
	}
}

// wrong checks what is got of bytes that are no encoding.
func wrong[T any](t *testing.T, name string, b []byte, get func([]byte) (T, api.Errno), want api.Errno) {
	t.Helper()
	var zero T
	if x, no := get(b); no != want || !reflect.DeepEqual(x, zero) {
		t.Errorf("%s: %v, %d, want %d", name, x, no, want)
	}
}

// P7.4
func TestGet(t *testing.T) {
	wrong(t, "nothing", nil, codec.GetSpec, api.ErrShort)
	wrong(t, "nothing", nil, codec.GetManifest, api.ErrShort)
	wrong(t, "nothing", nil, codec.GetBase, api.ErrShort)
	wrong(t, "13 operators", ints(1, 13), codec.GetSpec, api.ErrMany)
	wrong(t, "-1 operators", ints(1, -1), codec.GetSpec, api.ErrMany)
	wrong(t, "12 operators that lack", ints(1, 12), codec.GetSpec, api.ErrShort)
	wrong(t, "13 inputs", ints(1, 1, 1, 13), codec.GetSpec, api.ErrMany)
	wrong(t, "12 inputs that lack", ints(1, 1, 1, 12), codec.GetSpec, api.ErrShort)
	wrong(t, "13 in Par", ints(1, 13), codec.GetManifest, api.ErrMany)
	wrong(t, "13 in Offsets", ints(1, 0, 13), codec.GetManifest, api.ErrMany)
	wrong(t, "12 in Offsets", ints(1, 0, 12), codec.GetManifest, api.ErrShort)
	wrong(t, "9 offsets", ints(1, 0, 1, 9), codec.GetManifest, api.ErrMany)
	wrong(t, "8 offsets", ints(1, 0, 1, 8), codec.GetManifest, api.ErrShort)
	wrong(t, "13 in Rows", ints(1, 0, 0, 13), codec.GetManifest, api.ErrMany)
	wrong(t, "too many rows", ints(1, 0, 0, 1, api.MaxDisk+1), codec.GetManifest, api.ErrMany)
	wrong(t, "many rows that lack", ints(1, 0, 0, 1, api.MaxDisk), codec.GetManifest, api.ErrShort)
	wrong(t, "13 in Outs", ints(1, 0, 0, 0, 13), codec.GetManifest, api.ErrMany)
	wrong(t, "too many records", ints(1, 0, 0, 0, 1, api.MaxDisk+1), codec.GetManifest, api.ErrMany)
	wrong(t, "many records that lack", ints(1, 0, 0, 0, 1, api.MaxDisk), codec.GetManifest, api.ErrShort)
	wrong(t, "13 in a base's Outs", ints(1, 13), codec.GetBase, api.ErrMany)
	wrong(t, "too many records of a base", ints(1, 1, api.MaxDisk+1), codec.GetBase, api.ErrMany)
	wrong(t, "13 in a base's checkpoint's Par", ints(1, 0, 1, 13), codec.GetBase, api.ErrMany)
	wrong(t, "a long number", []byte{0x80, 0}, codec.GetSpec, api.ErrLong)
	wrong(t, "a long number, then many", append([]byte{0x80, 0}, ints(13)...), codec.GetSpec, api.ErrLong)
	wrong(t, "a long number in a row", append(ints(1, 0, 0, 1, 3, 7), 0x80, 0), codec.GetManifest, api.ErrLong)
	wrong(t, "a byte is left", append(manifestBytes(api.Manifest{No: 1}), 0), codec.GetManifest, api.ErrLong)
	wrong(t, "a byte is left", append(baseBytes(api.Base{Epoch: 1}), 0), codec.GetBase, api.ErrLong)
	if s, no := codec.GetSpec(ints(-7, 1, 99, 2, 5, 5, 0, 0, 0, -1, -2, -3)); no != api.OK || s.Groups != -7 || !slices.Equal(s.Ops[0].In, []int{5, 5}) {
		t.Error("a decoded job is checked further", s, no)
	}
}

// P7.4: each encoding that is cut off is short; with a byte more, long.
func TestCutOff(t *testing.T) {
	r := rand.New(rand.NewSource(8))
	for range 20 {
		s, m, x := specBytes(anySpec(r)), manifestBytes(anyManifest(r)), baseBytes(anyBase(r))
		for _, cut := range []int{0, 1, r.Intn(len(s)), len(s) - 1} {
			wrong(t, "a job cut off", s[:cut], codec.GetSpec, api.ErrShort)
		}
		for _, cut := range []int{0, 1, r.Intn(len(m)), len(m) - 1} {
			wrong(t, "a checkpoint cut off", m[:cut], codec.GetManifest, api.ErrShort)
		}
		for _, cut := range []int{0, 1, r.Intn(len(x)), len(x) - 1} {
			wrong(t, "a base cut off", x[:cut], codec.GetBase, api.ErrShort)
		}
		wrong(t, "more", append(s, 2), codec.GetSpec, api.ErrLong)
		wrong(t, "more", append(m, 2), codec.GetManifest, api.ErrLong)
		wrong(t, "more", append(x, 2), codec.GetBase, api.ErrLong)
	}
}

// P7.5: bytes that decode are the encoding of what they decode to.
func TestOneEncoding(t *testing.T) {
	r := rand.New(rand.NewSource(9))
	fine := 0
	for range 30000 {
		b := make([]byte, r.Intn(16))
		for i := range b {
			b[i] = byte(r.Intn(5))
			if r.Intn(10) == 0 {
				b[i] = byte(r.Intn(256))
			}
		}
		if m, no := codec.GetManifest(b); no == api.OK {
			fine++
			if again, _ := codec.PutManifest(m); !bytes.Equal(again, b) {
				t.Fatalf("%x is %v, which is %x", b, m, again)
			}
		}
	}
	if fine < 20 {
		t.Error("too few decode", fine)
	}
}

// R3
func TestArgumentsStay(t *testing.T) {
	m := api.Manifest{Par: []int{1, 2, 3}[:2], Offsets: [][]int{{1}}, Rows: [][]api.Row{{{Key: 1}}}, Outs: [][]api.Rec{{{Key: 2}}}}
	b, _ := codec.PutManifest(m)
	keep := bytes.Clone(b)
	got, _ := codec.GetManifest(b)
	got.Par[0], got.Offsets[0][0], got.Rows[0][0].Key, got.Outs[0][0].Key = 9, 9, 9, 9
	if again, _ := codec.PutManifest(m); !bytes.Equal(b, keep) || !bytes.Equal(again, keep) || m.Par[:3][2] != 3 {
		t.Error("an argument was changed")
	}
}

func TestExamples(t *testing.T) {
	if b, no := codec.PutSpec(api.Spec{Groups: 4}); no != api.OK || !bytes.Equal(b, []byte{8, 0}) {
		t.Errorf("%x", b)
	}
	if b, no := codec.PutManifest(api.Manifest{No: 1, Par: []int{2}}); no != api.OK || !bytes.Equal(b, []byte{2, 2, 4, 0, 0, 0}) {
		t.Errorf("%x", b)
	}
	if b, no := codec.PutBase(api.Base{}); no != api.OK || !bytes.Equal(b, make([]byte, 7)) {
		t.Errorf("%x", b)
	}
	wrong(t, "08", []byte{8}, codec.GetSpec, api.ErrShort)
	wrong(t, "08 00 00", []byte{8, 0, 0}, codec.GetSpec, api.ErrLong)
	wrong(t, "08 1A", []byte{8, 0x1A}, codec.GetSpec, api.ErrMany)
	if b, _ := codec.PutSpec(api.Spec{Groups: math.MinInt}); len(b) != 11 {
		t.Errorf("%x", b)
	}
}
