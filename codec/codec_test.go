package codec_test

import (
	"bytes"
	"math/rand"
	"slices"
	"testing"

	"gesso/api"
	"gesso/codec"
	"gesso/op"
)

const most = uint64(api.MaxTime)

var one = api.Id{Time: 2, Site: 1, Seq: 2}

func id(time uint64, site int, seq uint64) api.Id { return api.Id{Time: time, Site: site, Seq: seq} }

func of(n ...uint64) api.Vector {
	var v api.Vector
	copy(v[1:], n)
	return v
}

// good is one operation of each kind, by its number, and its bytes.
func good() ([]api.Op, [][]byte) {
	head := func(kind byte, b ...byte) []byte {
		return append([]byte{kind, 0, 0, 0, 0, 0, 0, 0, 2, 1, 0, 0, 0, 0, 0, 0, 0, 2}, b...)
	}
	c := api.Color{R: 1, G: 2, B: 3, A: 4}
	target := []byte{0, 0, 0, 0, 0, 0, 0, 1, 8, 64, 0, 0, 0, 0, 0, 0, 0}
	return []api.Op{
		{},
		{Id: one, Kind: api.OpBrush, X: -64, Y: 127, X2: 0, Y2: 1, Size: 15, Color: c},
		{Id: one, Kind: api.OpSquare, X: 1, Y: 2, X2: 3, Y2: 4, Size: 5, Color: c},
		{Id: one, Kind: api.OpRect, X: 1, Y: 2, X2: 3, Y2: 4, Color: c},
		{Id: one, Kind: api.OpWash, X: 1, Y: 2, X2: 3, Y2: 4, Color: c},
		{Id: one, Kind: api.OpFill, X: 1, Y: 2, Size: 1020, Color: c},
		{Id: one, Kind: api.OpStamp, X: 1, Y: 2, Stamp: api.Stamp{Wide: 1, High: 2, Pixels: []api.Color{c, {R: 9}}}},
		{Id: one, Kind: api.OpUndo, Target: id(1, 8, most)},
		{Id: one, Kind: api.OpRedo, Target: id(1, 8, most)},
	}, [][]byte{
		nil,
		head(1, 0, 191, 64, 65, 0, 15, 1, 2, 3, 4),
		head(2, 65, 66, 67, 68, 0, 5, 1, 2, 3, 4),
		head(3, 65, 66, 67, 68, 1, 2, 3, 4),
		head(4, 65, 66, 67, 68, 1, 2, 3, 4),
		head(5, 65, 66, 3, 252, 1, 2, 3, 4),
		head(6, 65, 66, 1, 2, 1, 2, 3, 4, 9, 0, 0, 0),
		head(7, target...),
		head(8, target...),
	}
}

// P19.1, P19.3
func TestId(t *testing.T) {
	want := []byte{0, 0, 0, 0, 0, 0, 0, 1, 2, 0, 0, 0, 0, 0, 0, 0, 3}
	got, e := codec.Id(id(1, 2, 3))
	if e != api.OK || !bytes.Equal(got, want) {
		t.Errorf("Id: %v %d", got, e)
	}
	for _, i := range []api.Id{{}, id(1, 9, 1), id(most+1, 1, 1), id(1, -1, 1)} {
		if got, e := codec.Id(i); e != api.ErrId || got != nil {
			t.Errorf("Id(%v): %d", i, e)
		}
	}
	if i, n, e := codec.TakeId(append(bytes.Clone(want), 9)); e != api.OK || n != 17 || i != id(1, 2, 3) {
		t.Errorf("TakeId: %v %d %d", i, n, e)
	}
	for n := range want {
		if i, n, e := codec.TakeId(want[:n]); e != api.ErrShort || n != 0 || i != (api.Id{}) {
			t.Errorf("TakeId of %d bytes: %d", n, e)
		}
	}
	for at, b := range map[int]byte{7: 0, 8: 0, 16: 0, 0: 64} {
		bad := bytes.Clone(want)
		if bad[at] = b; at == 0 {
			bad[7] = 1
		}
		if i, n, e := codec.TakeId(bad); e != api.ErrCode || n != 0 || i != (api.Id{}) {
			t.Errorf("TakeId of %v: %d", bad, e)
		}
		if _, _, e := codec.TakeId(bad[:16]); e != api.ErrShort {
			t.Errorf("TakeId of less of what is none: %d", e)
		}
	}
	bad := bytes.Clone(want)
	if bad[8] = 9; true {
		if _, _, e := codec.TakeId(bad); e != api.ErrCode {
			t.Errorf("TakeId of site 9: %d", e)
		}
	}
}

// P19.1, P19.3
func TestVector(t *testing.T) {
	v := of(1, 2, 0, 0, 0, 0, 0, most)
	got, e := codec.Vector(v)
	if e != api.OK || len(got) != 64 || got[7] != 1 || got[15] != 2 || got[56] != 64 || bytes.Count(got, []byte{0}) != 61 {
		t.Errorf("Vector: %v %d", got, e)
	}
	for _, v := range []api.Vector{{1}, of(most + 1)} {
		if got, e := codec.Vector(v); e != api.ErrVector || got != nil {
			t.Errorf("Vector(%v): %d", v, e)
		}
	}
	if w, n, e := codec.TakeVector(append(bytes.Clone(got), 1, 2, 3)); e != api.OK || n != 64 || w != v {
		t.Errorf("TakeVector: %v %d %d", w, n, e)
	}
	for n := range got {
		if _, n, e := codec.TakeVector(got[:n]); e != api.ErrShort || n != 0 {
			t.Errorf("TakeVector of %d bytes: %d", n, e)
		}
	}
	got[63] = 1
	if w, n, e := codec.TakeVector(got); e != api.ErrCode || n != 0 || w != of() {
		t.Errorf("TakeVector of more than MaxTime: %d", e)
	}
	if _, _, e := codec.TakeVector(got[:63]); e != api.ErrShort {
		t.Errorf("TakeVector of less of what is none: %d", e)
	}
}

// P19.1, P19.3
func TestOp(t *testing.T) {
	ops, want := good()
	for kind := 1; kind <= 8; kind++ {
		got, e := codec.Op(ops[kind])
		if e != api.OK || !bytes.Equal(got, want[kind]) || codec.Size(ops[kind]) != len(want[kind]) {
			t.Errorf("Op of kind %d: %v, not %v, %d", kind, got, want[kind], e)
		}
		if o, n, e := codec.TakeOp(append(bytes.Clone(want[kind]), 1, 2, 3)); e != api.OK || n != len(want[kind]) || !op.Same(o, ops[kind]) {
			t.Errorf("TakeOp of kind %d: %d %d", kind, n, e)
		}
		for n := range want[kind] {
			if o, n, e := codec.TakeOp(want[kind][:n]); e != api.ErrShort || n != 0 || !op.Same(o, api.Op{}) {
				t.Errorf("TakeOp of %d bytes of kind %d: %d", n, kind, e)
			}
		}
	}
	if codec.Size(ops[3]) != 26 || codec.Size(ops[7]) != 35 || codec.Size(api.Op{}) != 0 {
		t.Errorf("Size")
	}
	if got, e := codec.Op(api.Op{Id: one, Kind: 3, Size: 1}); e != api.ErrOp || got != nil {
		t.Errorf("Op of none: %d", e)
	}
}

// P19.3: the error that is met first.
func TestTakeOpErrors(t *testing.T) {
	_, want := good()
	with := func(kind, at int, b byte) []byte {
		out := bytes.Clone(want[kind])
		out[at] = b
		return out
	}
	for name, x := range map[string]struct {
		b []byte
		e api.Errno
	}{
		"nothing":                   {nil, api.ErrShort},
		"kind 9":                    {[]byte{9}, api.ErrCode},
		"kind 0":                    {[]byte{0}, api.ErrCode},
		"kind 7":                    {[]byte{7}, api.ErrShort},
		"no id, and short":          {with(3, 9, 0)[:18], api.ErrCode},
		"no id, half of it":         {with(3, 9, 0)[:17], api.ErrShort},
		"X too great":               {with(3, 18, 192), api.ErrCode},
		"X too great, and short":    {with(3, 18, 192)[:25], api.ErrShort},
		"Y2 too great":              {with(1, 21, 255), api.ErrCode},
		"size too great":            {with(1, 23, 16), api.ErrCode},
		"tolerance too great":       {with(5, 21, 253), api.ErrCode},
		"Wide 0, and short":         {with(6, 20, 0)[:21], api.ErrCode},
		"Wide 9":                    {with(6, 20, 9), api.ErrCode},
		"High 0, and short":         {with(6, 21, 0)[:22], api.ErrCode},
		"High 9":                    {with(6, 21, 9), api.ErrCode},
		"no target":                 {with(7, 26, 9), api.ErrCode},
		"a target not ahead":        {with(7, 25, 3), api.ErrCode},
		"no target, and short":      {with(7, 26, 9)[:34], api.ErrShort},
		"more pixels than are left": {with(6, 21, 3), api.ErrShort},
	} {
		if o, n, e := codec.TakeOp(x.b); e != x.e || n != 0 || !op.Same(o, api.Op{}) {
			t.Errorf("TakeOp of %s: %d", name, e)
		}
	}
}

// P19.2, P19.3
func TestOps(t *testing.T) {
	ops, bs := good()
	row := slices.Concat([]byte{3}, bs[6], bs[3], bs[6])
	got, e := codec.Ops(ops[6], ops[3], ops[6])
	if e != api.OK || !bytes.Equal(got, row) {
		t.Errorf("Ops: %v %d", got, e)
	}
	if got, e := codec.Ops(); e != api.OK || !bytes.Equal(got, []byte{0}) {
		t.Errorf("Ops of none: %v %d", got, e)
	}
	l, n, e := codec.TakeOps(append(bytes.Clone(row), 7))
	if e != api.OK || n != len(row) || !slices.EqualFunc(l, []api.Op{ops[6], ops[3], ops[6]}, op.Same) {
		t.Errorf("TakeOps: %d %d", n, e)
	}
	if l[0].Stamp.Pixels[0].R = 99; l[2].Stamp.Pixels[0].R == 99 {
		t.Errorf("two of a row share memory")
	}
	if l, n, e := codec.TakeOps([]byte{0, 1}); e != api.OK || n != 1 || len(l) != 0 {
		t.Errorf("TakeOps of none: %d %d", n, e)
	}
	for n := range row {
		if l, n, e := codec.TakeOps(row[:n]); e != api.ErrShort || n != 0 || l != nil {
			t.Errorf("TakeOps of %d bytes: %d", n, e)
		}
	}
	if l, n, e := codec.TakeOps([]byte{65}); e != api.ErrCode || n != 0 || l != nil {
		t.Errorf("TakeOps(65): %d", e)
	}
	if _, _, e := codec.TakeOps(slices.Concat([]byte{2}, bs[3], []byte{9})); e != api.ErrCode {
		t.Errorf("TakeOps with a kind that is none: %d", e)
	}
	if _, _, e := codec.TakeOps([]byte{64}); e != api.ErrShort {
		t.Errorf("TakeOps(64): %d", e)
	}
	big := api.Op{Id: one, Kind: api.OpStamp, Stamp: api.Stamp{Wide: 8, High: 8, Pixels: make([]api.Color, 64)}}
	most := slices.Repeat([]api.Op{big}, 64)
	got, e = codec.Ops(most...)
	if e != api.OK || len(got) != 1+64*278 {
		t.Errorf("Ops of the most: %d %d", len(got), e)
	}
	if l, n, e := codec.TakeOps(append(got, make([]byte, 2<<20)...)); e != api.OK || n != 1+64*278 || len(l) != 64 {
		t.Errorf("TakeOps of the most, with much behind: %d %d", n, e)
	}
	if got, e := codec.Ops(append(most, api.Op{})...); e != api.ErrLong || got != nil {
		t.Errorf("Ops of more: %d", e)
	}
	if got, e := codec.Ops(ops[3], api.Op{}); e != api.ErrOp || got != nil {
		t.Errorf("Ops of none such: %d", e)
	}
}

// P19.4
func TestFollows(t *testing.T) {
	r := rand.New(rand.NewSource(1))
	ops, _ := good()
	for range 3000 {
		o := ops[1+r.Intn(8)]
		b, _ := codec.Op(o)
		for range 1 + r.Intn(3) {
			b[r.Intn(len(b))] = byte(r.Intn(256)) >> r.Intn(8)
		}
		got, n, e := codec.TakeOp(append(b, 0, 1, 2))
		if e != api.OK {
			if n != 0 || e != api.ErrShort && e != api.ErrCode {
				t.Fatalf("TakeOp: %d %d", n, e)
			}
			continue
		}
		if again, e := codec.Op(got); e != api.OK || !bytes.Equal(again, append(b, 0, 1, 2)[:n]) {
			t.Fatalf("the bytes of what was taken are other ones: %v, %v", again, b)
		}
	}
}
