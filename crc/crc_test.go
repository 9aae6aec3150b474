package crc_test

import (
	"bytes"
	"hash/crc32"
	"math/big"
	"math/rand"
	"testing"

	"oxbow/crc"
)

// defined is the checksum as the chapter defines it: a remainder of polynomials, bit by bit.
func defined(b []byte) uint32 {
	var bits []uint
	for _, x := range b {
		for i := range 8 {
			bits = append(bits, uint(x>>i&1))
		}
	}
	bits = append(bits, make([]uint, 32)...)
	for i := range 32 {
		bits[i] ^= 1
	}
	g, p := new(big.Int), new(big.Int)
	for _, i := range []int{32, 26, 23, 22, 16, 12, 11, 10, 8, 7, 5, 4, 2, 1, 0} {
		g.SetBit(g, i, 1)
	}
	for i, x := range bits {
		p.SetBit(p, len(bits)-1-i, x)
	}
	for p.BitLen() > 32 {
		p.Xor(p, new(big.Int).Lsh(g, uint(p.BitLen()-33)))
	}
	var sum uint32
	for i := range 32 {
		sum |= uint32(p.Bit(31-i)) << i
	}
	return ^sum
}

func some(r *rand.Rand, n int) []byte {
	b := make([]byte, n)
	r.Read(b)
	return b
}

// P2.1
func TestSum(t *testing.T) {
	if crc.Sum(nil) != 0 || crc.Sum([]byte{}) != 0 || crc.Sum([]byte("123456789")) != 0xCBF43926 {
		t.Error("the chapter's examples")
	}
	for i := range 256 {
		for _, b := range [][]byte{{byte(i)}, {0, byte(i)}, {byte(i), 0, 255}} {
			if got, want := crc.Sum(b), defined(b); got != want {
				t.Errorf("Sum(%v) = %x, want %x", b, got, want)
			}
		}
	}
	r := rand.New(rand.NewSource(1))
	for n := range 300 {
		b := some(r, n)
		if got := crc.Sum(b); got != defined(b) || got != crc32.ChecksumIEEE(b) {
			t.Errorf("Sum of %d bytes: %x", n, got)
		}
	}
	zeros := make([]byte, 100000)
	if crc.Sum(zeros) != crc32.ChecksumIEEE(zeros) {
		t.Error("many zero bytes")
	}
}

// P2.2, P2.3
func TestMore(t *testing.T) {
	r := rand.New(rand.NewSource(2))
	for range 500 {
		a, b, c := some(r, r.Intn(20)), some(r, r.Intn(20)), some(r, r.Intn(20))
		ab := append(bytes.Clone(a), b...)
		if crc.More(crc.Sum(a), b) != crc32.ChecksumIEEE(ab) {
			t.Fatal("More isn't the checksum of both", a, b)
		}
		if crc.More(0, b) != crc.Sum(b) || crc.More(crc.Sum(a), nil) != crc.Sum(a) {
			t.Fatal("More of nothing", a, b)
		}
		sum := r.Uint32()
		if crc.More(crc.More(sum, b), c) != crc.More(sum, append(bytes.Clone(b), c...)) {
			t.Fatal("More of More", sum, b, c)
		}
	}
}

// R3
func TestArgumentStays(t *testing.T) {
	b := []byte("abcdef")
	crc.Sum(b[:3])
	crc.More(7, b[:3])
	if string(b) != "abcdef" {
		t.Error("the argument was changed", b)
	}
}
