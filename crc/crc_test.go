package crc_test

import (
	"bytes"
	"hash/crc32"
	"math"
	"math/rand"
	"testing"

	"gesso/api"
	"gesso/crc"
)

func random(r *rand.Rand, n int) []byte {
	b := make([]byte, n)
	r.Read(b)
	return b
}

// bits is a sum as the chapter says it, bit by bit.
func bits(b []byte) uint32 {
	r := uint32(math.MaxUint32)
	for n := 0; n < 8*len(b); n++ {
		x := uint32(b[n/8]>>(n%8)) & 1
		if x != r&1 {
			r = r>>1 ^ api.Poly
		} else {
			r >>= 1
		}
	}
	return ^r
}

// P2.1
func TestTable(t *testing.T) {
	got := crc.Table()
	want := crc32.MakeTable(crc32.IEEE)
	for i := range got {
		if got[i] != want[i] {
			t.Fatalf("Table at %d: %x, not %x", i, got[i], want[i])
		}
	}
	if got[128] != 0xedb88320 {
		t.Errorf("Table at 128: %x", got[128])
	}
}

// P2.1
func TestSum(t *testing.T) {
	if crc.Sum([]byte("123456789")) != 3421780262 || crc.Sum() != 0 || crc.Sum(nil, nil) != 0 {
		t.Errorf("the chapter's sums")
	}
	r := rand.New(rand.NewSource(1))
	for n := range 70 {
		a, b := random(r, n), random(r, n/3)
		if crc.Sum(a, nil, b) != bits(append(bytes.Clone(a), b...)) {
			t.Errorf("Sum of %v %v", a, b)
		}
	}
}

// P2.2, P2.6
func TestMore(t *testing.T) {
	r := rand.New(rand.NewSource(2))
	for n := range 50 {
		a, b := random(r, n), random(r, 50-n)
		if crc.More(crc.Sum(a), b) != crc.Sum(a, b) {
			t.Errorf("More of %v %v", a, b)
		}
	}
	if crc.More(77, nil) != 77 || crc.More(0, []byte{1, 2}) != bits([]byte{1, 2}) {
		t.Errorf("More of nothing")
	}
}

// P2.3
func TestTail(t *testing.T) {
	if got := crc.Tail(crc.Sum(), crc.Sum([]byte{1, 2, 3, 4})); got != [4]byte{1, 2, 3, 4} {
		t.Errorf("Tail: %v", got)
	}
	r := rand.New(rand.NewSource(3))
	for range 200 {
		sum, want := r.Uint32(), r.Uint32()
		tail := crc.Tail(sum, want)
		if crc.More(sum, tail[:]) != want {
			t.Errorf("Tail(%x, %x) = %v", sum, want, tail)
		}
	}
}

// P2.4
func TestSeal(t *testing.T) {
	if got := crc.Seal(nil); !bytes.Equal(got, []byte{0, 0, 0, 0}) {
		t.Errorf("Seal of nothing: %v", got)
	}
	if got := crc.Seal([]byte("123456789")); !bytes.Equal(got, append([]byte("123456789"), 0x26, 0x39, 0xf4, 0xcb)) {
		t.Errorf("Seal: %x", got)
	}
	if got, e := crc.Open([]byte{0, 0, 0, 0}); e != api.OK || len(got) != 0 {
		t.Errorf("Open of nothing sealed: %v %d", got, e)
	}
	for _, b := range [][]byte{nil, {0}, {0, 0, 0}, {0, 0, 0, 1}, {1, 0, 0, 0, 0}} {
		if got, e := crc.Open(b); e != api.ErrSum || got != nil {
			t.Errorf("Open(%v): %v %d", b, got, e)
		}
	}
	r := rand.New(rand.NewSource(4))
	for n := range 40 {
		b := random(r, n)
		keep := bytes.Clone(b)
		s := crc.Seal(b)
		got, e := crc.Open(s)
		if e != api.OK || !bytes.Equal(got, keep) {
			t.Errorf("Open of Seal(%v): %v %d", b, got, e)
		}
		if n > 0 {
			s[0] ^= 255
			if b[0] != keep[0] || got[0] != keep[0] {
				t.Errorf("memory is shared")
			}
		}
	}
	wide := append(make([]byte, 0, 64), 1, 2)
	crc.Seal(wide)
	if !bytes.Equal(wide[:8], []byte{1, 2, 0, 0, 0, 0, 0, 0}) {
		t.Errorf("Seal writes behind what it was handed")
	}
}

// P2.5
func TestSpoil(t *testing.T) {
	for _, x := range []struct {
		b    []byte
		bit  int
		mask uint32
		want []byte
		e    api.Errno
	}{
		{[]byte{1, 1}, 9, 3, []byte{1, 7}, api.OK},
		{[]byte{1, 1}, 15, 2, nil, api.ErrArg},
		{[]byte{1, 1}, 15, 3, []byte{1, 129}, api.OK},
		{[]byte{1, 1}, 16, 1, nil, api.ErrArg},
		{[]byte{1, 1}, -1, 7, nil, api.ErrArg},
		{[]byte{1, 1}, 0, 0, nil, api.ErrArg},
		{nil, 0, 1, nil, api.ErrArg},
		{[]byte{1, 1}, math.MaxInt, 1, nil, api.ErrArg},
		{[]byte{1, 1}, math.MinInt, 1, nil, api.ErrArg},
		{[]byte{0, 0, 0, 0, 0, 0}, 7, math.MaxUint32, []byte{128, 255, 255, 255, 127, 0}, api.OK},
		{[]byte{0, 0, 0, 0}, 0, 1 << 31, []byte{0, 0, 0, 128}, api.OK},
		{[]byte{0, 0, 0, 0}, 8, 1 << 31, nil, api.ErrArg},
	} {
		keep := bytes.Clone(x.b)
		got, e := crc.Spoil(x.b, x.bit, x.mask)
		if e != x.e || !bytes.Equal(got, x.want) {
			t.Errorf("Spoil(%v, %d, %x) = %v %d", x.b, x.bit, x.mask, got, e)
		}
		if !bytes.Equal(keep, x.b) {
			t.Errorf("Spoil changes what it was handed")
		}
	}
}

// P2.6
func TestSpoilt(t *testing.T) {
	r := rand.New(rand.NewSource(5))
	for range 300 {
		s := crc.Seal(random(r, r.Intn(30)))
		bit, mask := r.Intn(8*len(s)), r.Uint32()>>r.Intn(32)
		x, e := crc.Spoil(s, bit, mask)
		if e != api.OK {
			continue
		}
		if _, e := crc.Open(x); e != api.ErrSum {
			t.Errorf("a spoilt row opens: %v %d %x", s, bit, mask)
		}
		if crc.Sum(x) == crc.Sum(s) {
			t.Errorf("a spoilt row has the same sum")
		}
		if back, e := crc.Spoil(x, bit, mask); e != api.OK || !bytes.Equal(back, s) {
			t.Errorf("spoilt twice: %v %d", back, e)
		}
	}
}
