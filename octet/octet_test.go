package octet_test

import (
	"bytes"
	"math"
	"slices"
	"testing"

	"gesso/api"
	"gesso/octet"
)

// room is b with room behind its end, filled with a byte that must stay.
func room(b ...byte) []byte {
	r := make([]byte, len(b)+8)
	for i := range r {
		r[i] = 0xEE
	}
	copy(r, b)
	return r[:len(b)]
}

func untouched(t *testing.T, b []byte) {
	t.Helper()
	for _, x := range b[len(b):cap(b)] {
		if x != 0xEE {
			t.Fatalf("the room behind was written to")
		}
	}
}

// P1.1
func TestPut(t *testing.T) {
	for _, x := range []struct {
		b     []byte
		width int
		n     uint64
		want  []byte
		e     api.Errno
	}{
		{nil, 3, 258, []byte{0, 1, 2}, api.OK},
		{[]byte{9}, 1, 255, []byte{9, 255}, api.OK},
		{[]byte{9}, 1, 256, nil, api.ErrBig},
		{nil, 2, 65535, []byte{255, 255}, api.OK},
		{nil, 2, 65536, nil, api.ErrBig},
		{nil, 7, 1<<56 - 1, []byte{255, 255, 255, 255, 255, 255, 255}, api.OK},
		{nil, 7, 1 << 56, nil, api.ErrBig},
		{nil, 8, math.MaxUint64, []byte{255, 255, 255, 255, 255, 255, 255, 255}, api.OK},
		{nil, 8, 0x0102030405060708, []byte{1, 2, 3, 4, 5, 6, 7, 8}, api.OK},
		{nil, 0, 0, nil, api.ErrWidth},
		{nil, 9, 1, nil, api.ErrWidth},
		{nil, -1, math.MaxUint64, nil, api.ErrWidth},
		{nil, math.MinInt, 1, nil, api.ErrWidth},
	} {
		if got, e := octet.Put(x.b, x.width, x.n); e != x.e || !bytes.Equal(got, x.want) {
			t.Errorf("Put(%v, %d, %d) = %v %d", x.b, x.width, x.n, got, e)
		}
	}
	b := room(1, 2)
	p, _ := octet.Put(b, 2, 3)
	p[0] = 77
	untouched(t, b)
	if b[0] != 1 {
		t.Errorf("Put shares memory")
	}
}

// P1.1
func TestGet(t *testing.T) {
	b := []byte{0, 1, 2, 255}
	for _, x := range []struct {
		at, width int
		n         uint64
		e         api.Errno
	}{
		{0, 1, 0, api.OK}, {1, 2, 258, api.OK}, {0, 4, 66303, api.OK}, {3, 1, 255, api.OK},
		{3, 2, 0, api.ErrShort}, {4, 1, 0, api.ErrShort}, {5, 1, 0, api.ErrArg}, {-1, 1, 0, api.ErrArg},
		{9, 0, 0, api.ErrWidth}, {0, 9, 0, api.ErrWidth}, {math.MaxInt, 8, 0, api.ErrArg}, {math.MinInt, 8, 0, api.ErrArg},
	} {
		if n, e := octet.Get(b, x.at, x.width); n != x.n || e != x.e {
			t.Errorf("Get(%d, %d) = %d %d", x.at, x.width, n, e)
		}
	}
	if n, e := octet.Get([]byte{1, 2, 3, 4, 5, 6, 7, 8}, 0, 8); n != 0x0102030405060708 || e != api.OK {
		t.Errorf("Get of 8: %d %d", n, e)
	}
}

// P1.2
func TestSize(t *testing.T) {
	if n, e := octet.Size(); n != 0 || e != api.OK {
		t.Errorf("Size(): %d %d", n, e)
	}
	if n, e := octet.Size(1, 8, 3); n != 12 || e != api.OK {
		t.Errorf("Size: %d %d", n, e)
	}
	for _, l := range [][]int{{0}, {1, 9}, {8, -1, 2}} {
		if n, e := octet.Size(l...); n != 0 || e != api.ErrWidth {
			t.Errorf("Size(%v): %d %d", l, n, e)
		}
	}
}

// P1.2
func TestLaySplit(t *testing.T) {
	for _, x := range []struct {
		widths []int
		n      []uint64
		want   []byte
		e      api.Errno
	}{
		{nil, nil, nil, api.OK},
		{[]int{1, 2}, []uint64{7, 258}, []byte{7, 1, 2}, api.OK},
		{[]int{1, 2}, []uint64{7}, nil, api.ErrArg},
		{[]int{1}, []uint64{7, 8}, nil, api.ErrArg},
		{[]int{1, 9}, []uint64{256}, nil, api.ErrWidth},
		{[]int{0}, []uint64{0}, nil, api.ErrWidth},
		{[]int{2, 1}, []uint64{1, 256}, nil, api.ErrBig},
		{[]int{1, 1}, []uint64{256}, nil, api.ErrArg},
	} {
		got, e := octet.Lay(x.widths, x.n...)
		if e != x.e || !bytes.Equal(got, x.want) {
			t.Errorf("Lay(%v, %v) = %v %d", x.widths, x.n, got, e)
		}
		if e == api.OK {
			if n, e := octet.Split(x.widths, got); e != api.OK || !slices.Equal(n, x.n) {
				t.Errorf("Split(%v, %v) = %v %d", x.widths, got, n, e)
			}
		}
	}
	for _, x := range []struct {
		widths []int
		b      []byte
		e      api.Errno
	}{
		{[]int{1, 2}, []byte{7, 1}, api.ErrShort}, {[]int{1, 2}, []byte{7, 1, 2, 3}, api.ErrMore},
		{nil, []byte{1}, api.ErrMore}, {[]int{9}, nil, api.ErrWidth}, {[]int{1, 0}, []byte{1}, api.ErrWidth},
	} {
		if n, e := octet.Split(x.widths, x.b); e != x.e || n != nil {
			t.Errorf("Split(%v, %v) = %v %d", x.widths, x.b, n, e)
		}
	}
}

// P1.3
func TestPart(t *testing.T) {
	if b, e := octet.Part([]byte{9}, []byte{5, 6}); e != api.OK || !bytes.Equal(b, []byte{9, 0, 2, 5, 6}) {
		t.Errorf("Part: %v %d", b, e)
	}
	if b, e := octet.Part(nil, nil); e != api.OK || !bytes.Equal(b, []byte{0, 0}) {
		t.Errorf("Part of nothing: %v %d", b, e)
	}
	if b, e := octet.Part(nil, make([]byte, api.MaxPart)); e != api.OK || len(b) != api.MaxPart+2 || b[0] != 255 || b[1] != 255 {
		t.Errorf("Part of the greatest: %d", e)
	}
	if b, e := octet.Part([]byte{1}, make([]byte, api.MaxPart+1)); e != api.ErrLong || b != nil {
		t.Errorf("Part of more: %d", e)
	}
	b, part := room(1), room(2)
	p, _ := octet.Part(b, part)
	p[0], p[3] = 7, 7
	untouched(t, b)
	untouched(t, part)
	if b[0] != 1 || part[0] != 2 {
		t.Errorf("Part shares memory")
	}
}

func open(t *testing.T, b ...byte) *octet.Reader {
	t.Helper()
	r, e := octet.Open(b)
	if e != api.OK || r == nil {
		t.Fatalf("Open: %d", e)
	}
	return r
}

// P1.4
func TestReader(t *testing.T) {
	r := open(t, 1, 2, 3, 0, 2, 5, 6, 9)
	if r.Left() != 8 || r.Err() != api.OK || r.End() != api.ErrMore {
		t.Errorf("ahead: %d %d %d", r.Left(), r.Err(), r.End())
	}
	if n := r.Number(2); n != 258 || r.Left() != 6 {
		t.Errorf("Number: %d", n)
	}
	if b := r.Bytes(1); !bytes.Equal(b, []byte{3}) {
		t.Errorf("Bytes: %v", b)
	}
	if b := r.Part(); !bytes.Equal(b, []byte{5, 6}) || r.Left() != 1 {
		t.Errorf("Part: %v", b)
	}
	if b := r.Bytes(0); len(b) != 0 || r.Err() != api.OK {
		t.Errorf("Bytes(0): %v", b)
	}
	if r.End() != api.ErrMore {
		t.Errorf("End with one byte left: %d", r.End())
	}
	if n := r.Number(1); n != 9 || r.End() != api.OK || r.Left() != 0 {
		t.Errorf("the last: %d", n)
	}
}

// P1.4
func TestReaderFails(t *testing.T) {
	for name, x := range map[string]struct {
		b    []byte
		fail func(*octet.Reader) int
		e    api.Errno
	}{
		"width 0":     {[]byte{1, 2}, func(r *octet.Reader) int { return int(r.Number(0)) }, api.ErrWidth},
		"width 9":     {nil, func(r *octet.Reader) int { return int(r.Number(9)) }, api.ErrWidth},
		"short":       {[]byte{1, 2}, func(r *octet.Reader) int { return int(r.Number(3)) }, api.ErrShort},
		"below":       {[]byte{1, 2}, func(r *octet.Reader) int { return len(r.Bytes(-1)) }, api.ErrArg},
		"short bytes": {[]byte{1, 2}, func(r *octet.Reader) int { return len(r.Bytes(3)) }, api.ErrShort},
		"far":         {[]byte{1, 2}, func(r *octet.Reader) int { return len(r.Bytes(math.MaxInt)) }, api.ErrShort},
		"no part":     {[]byte{1}, func(r *octet.Reader) int { return len(r.Part()) }, api.ErrShort},
		"torn part":   {[]byte{0, 2, 9}, func(r *octet.Reader) int { return len(r.Part()) }, api.ErrShort},
	} {
		r := open(t, x.b...)
		if n := x.fail(r); n != 0 || r.Err() != x.e || r.End() != x.e {
			t.Errorf("%s: %d %d %d", name, n, r.Err(), r.End())
		}
		if r.Number(1) != 0 || r.Bytes(1) != nil || r.Part() != nil || r.Number(99) != 0 || r.Err() != x.e {
			t.Errorf("%s: goes on", name)
		}
	}
}

// P1.4
func TestOpen(t *testing.T) {
	torn := open(t, 0, 2, 9)
	if torn.Part(); torn.Left() != 3 {
		t.Errorf("a torn part's two bytes are read: %d left", torn.Left())
	}
	if r, e := octet.Open(make([]byte, api.MaxRow)); e != api.OK || r.Left() != api.MaxRow {
		t.Errorf("Open of the greatest: %d", e)
	}
	if r, e := octet.Open(make([]byte, api.MaxRow+1)); e != api.ErrLong || r != nil {
		t.Errorf("Open of more: %d", e)
	}
	b := []byte{1, 2, 3}
	r := open(t, b...)
	r2, _ := octet.Open(b)
	b[0] = 9
	if r2.Number(1) != 1 {
		t.Errorf("Open keeps what it was handed")
	}
	got := r.Bytes(2)
	got[1] = 9
	_ = append(got, 77)
	if r.Number(1) != 3 {
		t.Errorf("Bytes hands out what it keeps")
	}
	var none *octet.Reader
	if none.Number(1) != 0 || none.Bytes(1) != nil || none.Part() != nil || none.Left() != 0 || none.Err() != api.ErrNil || none.End() != api.ErrNil {
		t.Errorf("a nil reader tells something")
	}
}

// P1.5
func TestWayBack(t *testing.T) {
	widths := []int{1, 2, 3, 4, 5, 6, 7, 8}
	var n []uint64
	for i, w := range widths {
		n = append(n, math.MaxUint64>>(64-8*w)-uint64(i))
	}
	b, e := octet.Lay(widths, n...)
	if e != api.OK {
		t.Fatal(e)
	}
	r := open(t, b...)
	for i, w := range widths {
		if got := r.Number(w); got != n[i] {
			t.Errorf("read %d, laid %d", got, n[i])
		}
	}
	if r.End() != api.OK {
		t.Errorf("End: %d", r.End())
	}
	raw := make([]byte, len(b))
	for i := range raw {
		raw[i] = byte(i*37 + 5)
	}
	s, _ := octet.Split(widths, raw)
	if again, e := octet.Lay(widths, s...); e != api.OK || !bytes.Equal(again, raw) {
		t.Errorf("split and laid again: %v %d", again, e)
	}
	x, y := []uint64{0, 1, 255, 256, 65535, 65536, 1 << 31}, [][]byte{}
	for _, n := range x {
		p, _ := octet.Put(nil, 5, n)
		y = append(y, p)
	}
	if !slices.IsSortedFunc(y, bytes.Compare) {
		t.Errorf("bytes do not stand as their numbers")
	}
}
