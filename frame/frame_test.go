package frame_test

import (
	"bytes"
	"math"
	"math/rand"
	"slices"
	"testing"

	"gesso/api"
	"gesso/codec"
	"gesso/crc"
	"gesso/frame"
	"gesso/op"
)

const most = uint64(api.MaxTime)

func of(n ...uint64) api.Vector {
	var v api.Vector
	copy(v[1:], n)
	return v
}

func rect(time uint64, site int, seq uint64) api.Op {
	return api.Op{Id: api.Id{Time: time, Site: site, Seq: seq}, Kind: api.OpRect, X: 3}
}

// good is one frame of each kind, by its number.
func good() []api.Frame {
	return []api.Frame{
		{},
		{Kind: api.FrJoin, Epoch: 3, Site: 2, Snap: 9, Index: 7},
		{Kind: api.FrChunk, Epoch: 3, Site: 2, Snap: 9, Index: 3, Many: 4, Bytes: []byte{5, 6, 7}},
		{Kind: api.FrOps, Epoch: 3, Site: 1, Ops: []api.Op{rect(5, 1, 1), rect(7, 1, 2)}},
		{Kind: api.FrStatus, Epoch: 3, Site: 2, Vector: of(4, 5), Floor: 6, FloorSeq: 7},
		{Kind: api.FrState, Epoch: 3, Vector: of(4, 5), Proposed: 9, Told: 8, By: of(1)},
	}
}

func number(n uint64, width int) []byte {
	b := make([]byte, width)
	for i := range b {
		b[width-1-i] = byte(n >> (8 * i))
	}
	return b
}

// laid is what has to be sealed of each good frame.
func laid() [][]byte {
	ops, _ := codec.Ops(rect(5, 1, 1), rect(7, 1, 2))
	v, _ := codec.Vector(of(4, 5))
	by, _ := codec.Vector(of(1))
	epoch := number(3, 8)
	return [][]byte{
		nil,
		slices.Concat([]byte{1}, epoch, []byte{2}, number(9, 8), []byte{7}),
		slices.Concat([]byte{2}, epoch, []byte{2}, number(9, 8), []byte{3, 4, 0, 3, 5, 6, 7}),
		slices.Concat([]byte{3}, epoch, []byte{1}, ops),
		slices.Concat([]byte{4}, epoch, []byte{2}, v, number(6, 8), number(7, 8)),
		slices.Concat([]byte{5}, epoch, v, number(9, 8), number(8, 8), by),
	}
}

// P20.1
func TestCheckGood(t *testing.T) {
	with := func(kind int, f func(*api.Frame)) api.Frame {
		x := good()[kind]
		f(&x)
		return x
	}
	for name, f := range map[string]api.Frame{
		"join":             good()[1],
		"join of nothing":  {Kind: api.FrJoin, Site: 8},
		"join of the last": with(1, func(f *api.Frame) { f.Index, f.Epoch, f.Snap = 64, most, most }),
		"chunk":            good()[2],
		"the only chunk":   with(2, func(f *api.Frame) { f.Index, f.Many, f.Snap = 0, 1, 0 }),
		"the greatest":     with(2, func(f *api.Frame) { f.Index, f.Many, f.Bytes = 63, 64, make([]byte, 256) }),
		"a byte":           with(2, func(f *api.Frame) { f.Bytes, f.Many = []byte{0}, 4 }),
		"one operation":    with(3, func(f *api.Frame) { f.Ops = f.Ops[:1] }),
		"ops":              good()[3],
		"ops of the server": with(3, func(f *api.Frame) {
			f.Site, f.Ops = 0, []api.Op{rect(1, 2, 1), rect(1, 3, 1), rect(4, 1, 1), rect(5, 2, 9)}
		}),
		"status":            good()[4],
		"status of nothing": {Kind: api.FrStatus, Site: 1},
		"status of most":    with(4, func(f *api.Frame) { f.Floor, f.FloorSeq, f.Vector = most, most, of(most) }),
		"state":             good()[5],
		"state of nothing":  {Kind: api.FrState},
		"state, not asking": with(5, func(f *api.Frame) { f.Proposed, f.Told = 0, most }),
	} {
		if frame.Check(f) != api.OK {
			t.Errorf("Check of %s", name)
		}
		b, e := frame.Bytes(f)
		got, g := frame.Read(b)
		if e != api.OK || g != api.OK || !frame.Same(got, f) || len(b) > 2048 {
			t.Errorf("Bytes, Read of %s: %d %d", name, e, g)
		}
	}
}

// sets is by each field how it comes to be another one than zero.
func sets() map[string]func(*api.Frame) {
	return map[string]func(*api.Frame){
		"Epoch": func(f *api.Frame) { f.Epoch++ }, "Site": func(f *api.Frame) { f.Site++ }, "Snap": func(f *api.Frame) { f.Snap++ }, "Index": func(f *api.Frame) { f.Index++ }, "Many": func(f *api.Frame) { f.Many++ },
		"Bytes": func(f *api.Frame) { f.Bytes = append(bytes.Clone(f.Bytes), 1) }, "Ops": func(f *api.Frame) { f.Ops = append(slices.Clone(f.Ops), rect(9, 1, 3)) }, "Vector": func(f *api.Frame) { f.Vector[8]++ },
		"Floor": func(f *api.Frame) { f.Floor++ }, "FloorSeq": func(f *api.Frame) { f.FloorSeq++ }, "Proposed": func(f *api.Frame) { f.Proposed++ }, "Told": func(f *api.Frame) { f.Told++ }, "By": func(f *api.Frame) { f.By[3]++ },
	}
}

var uses = [][]string{{}, {"Epoch", "Site", "Snap", "Index"}, {"Epoch", "Site", "Snap", "Index", "Many", "Bytes"}, {"Epoch", "Site", "Ops"}, {"Epoch", "Site", "Vector", "Floor", "FloorSeq"}, {"Epoch", "Vector", "Proposed", "Told", "By"}}

// P20.1
func TestCheckBad(t *testing.T) {
	for kind := 1; kind <= 5; kind++ {
		for name, set := range sets() {
			f := good()[kind]
			if set(&f); !slices.Contains(uses[kind], name) && frame.Check(f) != api.ErrFrame {
				t.Errorf("kind %d with %s", kind, name)
			}
		}
	}
	for name, f := range map[string]func() (int, func(*api.Frame)){
		"join of site 0":       func() (int, func(*api.Frame)) { return 1, func(f *api.Frame) { f.Site = 0 } },
		"join of site 9":       func() (int, func(*api.Frame)) { return 1, func(f *api.Frame) { f.Site = 9 } },
		"join of site -1":      func() (int, func(*api.Frame)) { return 1, func(f *api.Frame) { f.Site = -1 } },
		"join of 65":           func() (int, func(*api.Frame)) { return 1, func(f *api.Frame) { f.Index = 65 } },
		"join of -1":           func() (int, func(*api.Frame)) { return 1, func(f *api.Frame) { f.Index = -1 } },
		"join, epoch":          func() (int, func(*api.Frame)) { return 1, func(f *api.Frame) { f.Epoch = most + 1 } },
		"join, snap":           func() (int, func(*api.Frame)) { return 1, func(f *api.Frame) { f.Snap = most + 1 } },
		"chunk of site 0":      func() (int, func(*api.Frame)) { return 2, func(f *api.Frame) { f.Site = 0 } },
		"chunk at many":        func() (int, func(*api.Frame)) { return 2, func(f *api.Frame) { f.Index = 4 } },
		"chunk at -1":          func() (int, func(*api.Frame)) { return 2, func(f *api.Frame) { f.Index = -1 } },
		"chunk of 0":           func() (int, func(*api.Frame)) { return 2, func(f *api.Frame) { f.Index, f.Many = 0, 0 } },
		"chunk of 65":          func() (int, func(*api.Frame)) { return 2, func(f *api.Frame) { f.Many = 65 } },
		"chunk without bytes":  func() (int, func(*api.Frame)) { return 2, func(f *api.Frame) { f.Bytes = nil } },
		"chunk of 257 bytes":   func() (int, func(*api.Frame)) { return 2, func(f *api.Frame) { f.Bytes = make([]byte, 257) } },
		"ops of site 9":        func() (int, func(*api.Frame)) { return 3, func(f *api.Frame) { f.Site = 9 } },
		"ops of site -1":       func() (int, func(*api.Frame)) { return 3, func(f *api.Frame) { f.Site = -1 } },
		"ops of another site":  func() (int, func(*api.Frame)) { return 3, func(f *api.Frame) { f.Ops[1] = rect(7, 2, 1) } },
		"ops that do not rise": func() (int, func(*api.Frame)) { return 3, func(f *api.Frame) { f.Ops[1] = rect(5, 1, 1) } },
		"ops that fall":        func() (int, func(*api.Frame)) { return 3, func(f *api.Frame) { f.Ops[1] = rect(4, 1, 2) } },
		"no op":                func() (int, func(*api.Frame)) { return 3, func(f *api.Frame) { f.Ops[1].Size = 3 } },
		"none":                 func() (int, func(*api.Frame)) { return 3, func(f *api.Frame) { f.Ops = nil } },
		"five": func() (int, func(*api.Frame)) {
			return 3, func(f *api.Frame) { f.Ops = append(f.Ops, rect(8, 1, 3), rect(9, 1, 4), rect(10, 1, 5)) }
		},
		"status of site 0":    func() (int, func(*api.Frame)) { return 4, func(f *api.Frame) { f.Site = 0 } },
		"status, vector":      func() (int, func(*api.Frame)) { return 4, func(f *api.Frame) { f.Vector[0] = 1 } },
		"status, floor":       func() (int, func(*api.Frame)) { return 4, func(f *api.Frame) { f.Floor = most + 1 } },
		"status, seq":         func() (int, func(*api.Frame)) { return 4, func(f *api.Frame) { f.FloorSeq = math.MaxUint64 } },
		"state, told so":      func() (int, func(*api.Frame)) { return 5, func(f *api.Frame) { f.Told = 9 } },
		"state, told":         func() (int, func(*api.Frame)) { return 5, func(f *api.Frame) { f.Proposed, f.Told = 0, most+1 } },
		"state, proposed":     func() (int, func(*api.Frame)) { return 5, func(f *api.Frame) { f.Proposed = most + 1 } },
		"state, vector":       func() (int, func(*api.Frame)) { return 5, func(f *api.Frame) { f.Vector = of(most + 1) } },
		"state, by":           func() (int, func(*api.Frame)) { return 5, func(f *api.Frame) { f.By = of(most + 1) } },
		"state, epoch":        func() (int, func(*api.Frame)) { return 5, func(f *api.Frame) { f.Epoch = most + 1 } },
		"kind 0":              func() (int, func(*api.Frame)) { return 1, func(f *api.Frame) { f.Kind = 0 } },
		"kind 6":              func() (int, func(*api.Frame)) { return 1, func(f *api.Frame) { f.Kind = 6 } },
		"kind -1":             func() (int, func(*api.Frame)) { return 1, func(f *api.Frame) { f.Kind = -1 } },
		"a zero one, kind 77": func() (int, func(*api.Frame)) { return 0, func(f *api.Frame) { f.Kind = 77 } },
	} {
		kind, set := f()
		x := good()[kind]
		set(&x)
		if frame.Check(x) != api.ErrFrame {
			t.Errorf("Check of %s", name)
		}
		if b, e := frame.Bytes(x); e != api.ErrFrame || b != nil {
			t.Errorf("Bytes of %s: %d", name, e)
		}
	}
}

// P20.1
func TestSame(t *testing.T) {
	for kind, f := range good() {
		if !frame.Same(f, good()[kind]) {
			t.Errorf("Same of kind %d", kind)
		}
		for name, set := range sets() {
			other := good()[kind]
			if set(&other); frame.Same(f, other) || frame.Same(other, f) {
				t.Errorf("Same of kind %d with another %s", kind, name)
			}
		}
		other := good()[kind]
		if other.Kind++; frame.Same(f, other) {
			t.Errorf("Same with another Kind")
		}
	}
	a, b := good()[3], good()[3]
	if b.Ops[1].X = 4; frame.Same(a, b) {
		t.Errorf("Same with another operation")
	}
	if !frame.Same(api.Frame{}, api.Frame{Bytes: []byte{}, Ops: []api.Op{}}) {
		t.Errorf("nil and empty are not one")
	}
}

// P20.2
func TestWordUses(t *testing.T) {
	words := []string{"", "join", "chunk", "ops", "status", "state", ""}
	texts := []string{"", "Epoch, Site, Snap, Index", "Epoch, Site, Snap, Index, Many, Bytes", "Epoch, Site, Ops", "Epoch, Site, Vector, Floor, FloorSeq", "Epoch, Vector, Proposed, Told, By", ""}
	for kind := range words {
		if frame.Word(kind) != words[kind] || frame.Uses(kind) != texts[kind] {
			t.Errorf("of kind %d: %q, %q", kind, frame.Word(kind), frame.Uses(kind))
		}
	}
	for _, kind := range []int{-1, math.MaxInt, math.MinInt} {
		if frame.Word(kind) != "" || frame.Uses(kind) != "" {
			t.Errorf("of kind %d something is told", kind)
		}
	}
}

// P20.3, P20.4
func TestBytesRead(t *testing.T) {
	for kind := 1; kind <= 5; kind++ {
		want := crc.Seal(laid()[kind])
		got, e := frame.Bytes(good()[kind])
		if e != api.OK || !bytes.Equal(got, want) {
			t.Errorf("Bytes of kind %d: %v, not %v, %d", kind, got, want, e)
		}
		f, e := frame.Read(want)
		if e != api.OK || !frame.Same(f, good()[kind]) {
			t.Errorf("Read of kind %d: %d", kind, e)
		}
		for n := range want {
			if f, e := frame.Read(want[:n]); e != api.ErrSum || !frame.Same(f, api.Frame{}) {
				t.Errorf("Read of %d bytes of kind %d: %d", n, kind, e)
			}
		}
		for n := range laid()[kind] {
			if f, e := frame.Read(crc.Seal(laid()[kind][:n])); e != api.ErrFrame || !frame.Same(f, api.Frame{}) {
				t.Errorf("Read of %d sealed bytes of kind %d: %d", n, kind, e)
			}
		}
		if _, e := frame.Read(crc.Seal(append(laid()[kind], 0))); e != api.ErrFrame {
			t.Errorf("Read of kind %d with more behind: %d", kind, e)
		}
	}
	state, _ := frame.Bytes(api.Frame{Kind: api.FrState, Epoch: 3})
	join, _ := frame.Bytes(api.Frame{Kind: api.FrJoin, Epoch: 3, Site: 2, Index: 7})
	if len(join) != 23 || len(state) != 157 {
		t.Errorf("sizes: %d, %d", len(join), len(state))
	}
	bad := laid()[2]
	bad[18] = 4
	if _, e := frame.Read(crc.Seal(bad)); e != api.ErrFrame {
		t.Errorf("Read of what may not be: %d", e)
	}
	for _, b := range [][]byte{{0, 0, 0, 0}, crc.Seal([]byte{6}), crc.Seal([]byte{0}), crc.Seal(make([]byte, 3<<20))} {
		if _, e := frame.Read(b); e != api.ErrFrame {
			t.Errorf("Read of no frame: %d", e)
		}
	}
}

// P20.4
func TestReads(t *testing.T) {
	var rows [][]byte
	for kind := 1; kind <= 5; kind++ {
		b, _ := frame.Bytes(good()[kind])
		rows = append(rows, b, b[1:], crc.Seal([]byte{9}))
	}
	got, bad := frame.Reads(rows...)
	if bad != 10 || !slices.EqualFunc(got, good()[1:], frame.Same) {
		t.Errorf("Reads: %d frames, %d bad", len(got), bad)
	}
	if got, bad := frame.Reads(); len(got) != 0 || bad != 0 {
		t.Errorf("Reads of none: %d %d", len(got), bad)
	}
}

// P20.5
func TestFollows(t *testing.T) {
	r := rand.New(rand.NewSource(1))
	for range 2000 {
		b, _ := frame.Bytes(good()[1+r.Intn(5)])
		if x, e := crc.Spoil(b, r.Intn(8*len(b)), r.Uint32()); e == api.OK {
			if f, e := frame.Read(x); e != api.ErrSum || !frame.Same(f, api.Frame{}) {
				t.Fatalf("spoilt it is a frame's: %d", e)
			}
		}
		sealed, _ := crc.Open(b)
		sealed[r.Intn(len(sealed))] = byte(r.Intn(256)) >> r.Intn(8)
		b = crc.Seal(sealed)
		f, e := frame.Read(b)
		if e != api.OK {
			continue
		}
		if again, e := frame.Bytes(f); e != api.OK || !bytes.Equal(again, b) {
			t.Fatalf("what is read has other bytes: %v, %v", again, b)
		}
	}
	big := api.Op{Id: api.Id{Time: 1, Site: 1, Seq: 1}, Kind: api.OpStamp, Stamp: api.Stamp{Wide: 8, High: 8, Pixels: make([]api.Color, 64)}}
	f := api.Frame{Kind: api.FrOps}
	for i := range 4 {
		big.Id.Site = 1 + i
		f.Ops = append(f.Ops, big)
	}
	b, e := frame.Bytes(f)
	if e != api.OK || len(b) > 2048 {
		t.Errorf("the greatest frame has %d bytes, %d", len(b), e)
	}
	got, _ := frame.Read(b)
	if got.Ops[0].Stamp.Pixels[0].R = 9; !op.Same(f.Ops[1], got.Ops[1]) {
		t.Errorf("memory is shared")
	}
}
