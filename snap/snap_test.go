package snap_test

import (
	"bytes"
	"math"
	"math/rand"
	"slices"
	"testing"

	"gesso/api"
	"gesso/canvas"
	"gesso/snap"
)

const most = uint64(api.MaxTime)

func of(n ...uint64) api.Vector {
	var v api.Vector
	copy(v[1:], n)
	return v
}

func blank(t *testing.T, wide, high int) api.Canvas {
	t.Helper()
	c, e := canvas.New(wide, high)
	if e != api.OK {
		t.Fatal(e)
	}
	return c.Show()
}

// bytesOf is many bytes, all others.
func bytesOf(many int) []byte {
	b := make([]byte, many)
	for i := range b {
		b[i] = byte(i*7 + i/256)
	}
	return b
}

func example(t *testing.T) api.Snapshot {
	c := blank(t, 1, 1)
	return api.Snapshot{Canvas: c, Folded: 3, Start: 5, Base: of(1, 2)}
}

func bad(t *testing.T) map[string]api.Snapshot {
	out := map[string]api.Snapshot{}
	for name, f := range map[string]func(s *api.Snapshot){
		"no canvas": func(s *api.Snapshot) { s.Canvas = api.Canvas{} }, "a tile more": func(s *api.Snapshot) { s.Canvas.Tiles = make([]api.Tile, 2) },
		"folded above start": func(s *api.Snapshot) { s.Folded = 6 }, "start": func(s *api.Snapshot) { s.Start = most + 1 },
		"base": func(s *api.Snapshot) { s.Base[0] = 1 }, "base too great": func(s *api.Snapshot) { s.Base[4] = most + 1 },
	} {
		s := example(t)
		f(&s)
		out[name] = s
	}
	return out
}

// P21.1
func TestSnapshot(t *testing.T) {
	s := example(t)
	s.Canvas.Tiles[0][0] = api.Color{R: 9}
	b, e := snap.Bytes(s)
	want := slices.Concat([]byte{0, 0, 0, 0, 0, 0, 0, 3, 0, 0, 0, 0, 0, 0, 0, 5}, []byte{0, 0, 0, 0, 0, 0, 0, 1, 0, 0, 0, 0, 0, 0, 0, 2}, make([]byte, 48), []byte{1, 1, 1, 9, 0, 0, 0, 63, 0, 0, 0, 0})
	if e != api.OK || !bytes.Equal(b, want) {
		t.Errorf("Bytes: %v %d", b, e)
	}
	if empty, _ := snap.Bytes(example(t)); len(empty) != 83 {
		t.Errorf("Bytes of an empty canvas: %d", len(empty))
	}
	got, e := snap.Read(b)
	if e != api.OK || !snap.Same(got, s) {
		t.Errorf("Read: %d", e)
	}
	for n := range b {
		if got, e := snap.Read(b[:n]); e != api.ErrSnap || !snap.Same(got, api.Snapshot{}) {
			t.Errorf("Read of %d bytes: %d", n, e)
		}
	}
	for name, x := range map[string]func(b []byte) []byte{
		"more behind":        func(b []byte) []byte { return append(b, 0) },
		"folded above start": func(b []byte) []byte { b[7] = 6; return b },
		"start too late":     func(b []byte) []byte { b[8] = 64; return b },
		"no vector":          func(b []byte) []byte { b[16] = 65; return b },
		"no canvas":          func(b []byte) []byte { b[80] = 0; return b },
	} {
		if got, e := snap.Read(x(bytes.Clone(b))); e != api.ErrSnap || !snap.Same(got, api.Snapshot{}) {
			t.Errorf("Read of %s: %d", name, e)
		}
	}
	late := example(t)
	late.Folded, late.Start = most, most
	if snap.Check(late) != api.OK || snap.Check(s) != api.OK {
		t.Errorf("Check")
	}
	for name, s := range bad(t) {
		if b, e := snap.Bytes(s); snap.Check(s) != api.ErrSnap || e != api.ErrSnap || b != nil {
			t.Errorf("of %s: %d", name, e)
		}
		if !snap.Same(s, bad(t)[name]) || snap.Same(s, example(t)) {
			t.Errorf("Same of %s", name)
		}
	}
	other := example(t)
	if other.Start++; snap.Same(other, example(t)) {
		t.Errorf("Same with another start")
	}
}

// P21.2
func TestCut(t *testing.T) {
	for many, sizes := range map[int][]int{1: {1}, 255: {255}, 256: {256}, 257: {256, 1}, 300: {256, 44}, 512: {256, 256}, 64 * 256: slices.Repeat([]int{256}, 64)} {
		b := bytesOf(many)
		l, e := snap.Cut(7, b)
		if e != api.OK || len(l) != len(sizes) {
			t.Fatalf("Cut of %d: %d pieces, %d", many, len(l), e)
		}
		for i, p := range l {
			if p.Snap != 7 || p.Index != i || p.Many != len(sizes) || len(p.Bytes) != sizes[i] || !bytes.Equal(p.Bytes, b[256*i:256*i+sizes[i]]) || snap.CheckPiece(p) != api.OK {
				t.Errorf("Cut of %d: the piece %d", many, i)
			}
			got, e := snap.Piece(7, b, i)
			if e != api.OK || got.Snap != 7 || got.Index != i || got.Many != p.Many || !bytes.Equal(got.Bytes, p.Bytes) {
				t.Errorf("Piece %d of %d: %d", i, many, e)
			}
		}
		keep := b[0]
		if l[0].Bytes[0]++; b[0] != keep {
			t.Errorf("Cut shares memory")
		}
	}
	long := make([]byte, 64*256+1)
	for _, x := range []struct {
		snap  uint64
		b     []byte
		index int
		e     api.Errno
	}{{0, bytesOf(9), 0, api.ErrArg}, {most + 1, bytesOf(9), 0, api.ErrArg}, {1, nil, 0, api.ErrArg}, {1, long, 0, api.ErrLong}, {0, long, 0, api.ErrArg}, {1, long, 99, api.ErrLong}, {1, bytesOf(300), 2, api.ErrArg}, {1, bytesOf(300), -1, api.ErrArg}, {1, bytesOf(300), math.MaxInt, api.ErrArg}, {most, bytesOf(300), 1, api.OK}} {
		p, e := snap.Piece(x.snap, x.b, x.index)
		if e != x.e || e != api.OK && (p.Snap != 0 || p.Index != 0 || p.Many != 0 || p.Bytes != nil) {
			t.Errorf("Piece(%d, %d bytes, %d): %d", x.snap, len(x.b), x.index, e)
		}
		if l, e := snap.Cut(x.snap, x.b); e != x.e && !(e == api.OK && len(x.b) == 300) || e != api.OK && l != nil {
			t.Errorf("Cut(%d, %d bytes): %d", x.snap, len(x.b), e)
		}
	}
}

// P21.3
func TestCheckPiece(t *testing.T) {
	for _, x := range []struct {
		p  api.Piece
		ok bool
	}{
		{api.Piece{Snap: 1, Many: 1, Bytes: bytesOf(1)}, true}, {api.Piece{Snap: most, Index: 63, Many: 64, Bytes: bytesOf(256)}, true}, {api.Piece{Snap: 1, Index: 0, Many: 2, Bytes: bytesOf(256)}, true}, {api.Piece{Snap: 1, Index: 1, Many: 2, Bytes: bytesOf(3)}, true},
		{api.Piece{}, false}, {api.Piece{Snap: 0, Many: 1, Bytes: bytesOf(1)}, false}, {api.Piece{Snap: most + 1, Many: 1, Bytes: bytesOf(1)}, false}, {api.Piece{Snap: 1, Many: 0, Bytes: bytesOf(1)}, false}, {api.Piece{Snap: 1, Many: 65, Bytes: bytesOf(256)}, false},
		{api.Piece{Snap: 1, Index: 1, Many: 1, Bytes: bytesOf(1)}, false}, {api.Piece{Snap: 1, Index: -1, Many: 1, Bytes: bytesOf(256)}, false}, {api.Piece{Snap: 1, Many: 1}, false}, {api.Piece{Snap: 1, Many: 1, Bytes: bytesOf(257)}, false}, {api.Piece{Snap: 1, Many: 2, Bytes: bytesOf(255)}, false},
	} {
		if (snap.CheckPiece(x.p) == api.OK) != x.ok || !x.ok && snap.CheckPiece(x.p) != api.ErrPiece {
			t.Errorf("CheckPiece(%d, %d of %d, %d bytes)", x.p.Snap, x.p.Index, x.p.Many, len(x.p.Bytes))
		}
	}
}

func badPiles() []api.Pile {
	return []api.Pile{
		{Snap: 1}, {Many: 1}, {Parts: [][]byte{{1}}}, {Snap: 1, Many: 1, Parts: [][]byte{nil}}, {Snap: 1, Many: 2, Parts: [][]byte{nil, {}}}, {Snap: 1, Many: 2, Parts: [][]byte{bytesOf(256)}}, {Snap: 1, Many: 1, Parts: [][]byte{bytesOf(256), nil}},
		{Snap: 0, Many: 1, Parts: [][]byte{{1}}}, {Snap: most + 1, Many: 1, Parts: [][]byte{{1}}}, {Snap: 1, Many: 2, Parts: [][]byte{{1}, nil}}, {Snap: 1, Many: 1, Parts: [][]byte{bytesOf(257)}}, {Snap: 1, Many: 65, Parts: slices.Repeat([][]byte{bytesOf(256)}, 65)}, {Snap: 1, Many: 0, Parts: [][]byte{}}, {Snap: 1, Many: -1},
	}
}

func same(a, b api.Pile) bool {
	return a.Snap == b.Snap && a.Many == b.Many && slices.EqualFunc(a.Parts, b.Parts, func(x, y []byte) bool { return bytes.Equal(x, y) })
}

// P21.3
func TestCheckPile(t *testing.T) {
	for _, p := range []api.Pile{{}, {Parts: [][]byte{}}, {Snap: 1, Many: 1, Parts: [][]byte{{1}}}, {Snap: most, Many: 2, Parts: [][]byte{nil, {1}}}, {Snap: 1, Many: 2, Parts: [][]byte{bytesOf(256), {}}}} {
		if snap.CheckPile(p) != api.OK {
			t.Errorf("CheckPile(%v)", p)
		}
	}
	for i, p := range badPiles() {
		if snap.CheckPile(p) != api.ErrPile {
			t.Errorf("CheckPile of the bad one %d", i)
		}
		x, e := snap.Put(p, api.Piece{})
		y, n, f := snap.Puts(p, api.Piece{})
		at, ok := snap.Next(p)
		b, whole := snap.Whole(p)
		if e != api.ErrPile || f != api.ErrPile || n != 0 || !same(x, api.Pile{}) || !same(y, x) || at != 0 || ok || b != nil || whole {
			t.Errorf("of the bad one %d: %d %d", i, e, f)
		}
	}
}

// P21.4, P21.5
func TestPut(t *testing.T) {
	b := bytesOf(300)
	l, _ := snap.Cut(1, b)
	if at, ok := snap.Next(api.Pile{}); at != 0 || !ok {
		t.Errorf("Next of nothing: %d %t", at, ok)
	}
	if got, ok := snap.Whole(api.Pile{}); ok || got != nil {
		t.Errorf("Whole of nothing")
	}
	p, passed, e := snap.Puts(api.Pile{}, l[1], l[1])
	if e != api.OK || passed != 1 || !same(p, api.Pile{Snap: 1, Many: 2, Parts: [][]byte{nil, b[256:]}}) {
		t.Errorf("Puts: %d %d", passed, e)
	}
	if at, ok := snap.Next(p); at != 0 || !ok {
		t.Errorf("Next: %d %t", at, ok)
	}
	if got, ok := snap.Whole(p); ok || got != nil {
		t.Errorf("Whole of less")
	}
	keep := api.Pile{Snap: 1, Many: 2, Parts: [][]byte{nil, bytes.Clone(b[256:])}}
	full, e := snap.Put(p, l[0])
	if got, ok := snap.Whole(full); e != api.OK || !ok || !bytes.Equal(got, b) || !same(p, keep) {
		t.Errorf("Whole: %d", e)
	}
	if at, ok := snap.Next(full); at != 0 || ok {
		t.Errorf("Next of what is whole: %d %t", at, ok)
	}
	three, _ := snap.Cut(2, bytesOf(700))
	newer, e := snap.Put(full, three[0])
	if at, ok := snap.Next(newer); e != api.OK || !ok || at != 1 || newer.Snap != 2 || newer.Many != 3 {
		t.Errorf("a greater Snap: %d %d", at, e)
	}
	other, _ := snap.Cut(1, bytesOf(700))
	for name, x := range map[string]struct {
		p    api.Pile
		x    api.Piece
		want api.Errno
	}{
		"no piece": {p, api.Piece{Snap: 1}, api.ErrPiece}, "no piece of a lesser one": {newer, api.Piece{Snap: 1}, api.ErrPiece}, "a lesser one": {newer, l[0], api.ErrBehind}, "another Many": {p, other[0], api.ErrPiece},
		"there": {full, l[0], api.ErrThere}, "there too": {p, l[1], api.ErrThere}, "another Many, there": {p, other[1], api.ErrPiece},
	} {
		if got, e := snap.Put(x.p, x.x); e != x.want || !same(got, api.Pile{}) {
			t.Errorf("Put of %s: %d", name, e)
		}
		if got, n, e := snap.Puts(x.p, x.x); e != api.OK || n != 1 || !same(got, x.p) {
			t.Errorf("Puts of %s: %d %d", name, n, e)
		}
	}
	if got, n, e := snap.Puts(newer, three[2], l[0], three[1]); e != api.OK || n != 1 || got.Snap != 2 {
		t.Errorf("Puts: %d %d", n, e)
	} else if whole, ok := snap.Whole(got); !ok || !bytes.Equal(whole, bytesOf(700)) {
		t.Errorf("Whole of three")
	}
	if got, n, e := snap.Puts(p); e != api.OK || n != 0 || !same(got, p) {
		t.Errorf("Puts of none: %d", e)
	}
	full.Parts[0][0]++
	if l[0].Bytes[0] != b[0] {
		t.Errorf("Put keeps what it was handed")
	}
	again, _ := snap.Put(p, l[0])
	if again.Parts[1][0]++; p.Parts[1][0] != b[256] {
		t.Errorf("Put shares memory")
	}
}

// P21.6
func TestFollows(t *testing.T) {
	r := rand.New(rand.NewSource(1))
	for range 200 {
		b := bytesOf(1 + r.Intn(3000))
		l, _ := snap.Cut(5, b)
		var p api.Pile
		for _, at := range append(r.Perm(len(l)), r.Intn(len(l))) {
			p, _, _ = snap.Puts(p, l[at], l[at])
			_, more := snap.Next(p)
			if _, whole := snap.Whole(p); whole == more || snap.CheckPile(p) != api.OK {
				t.Fatalf("Next %t, Whole %t", more, whole)
			}
		}
		if got, ok := snap.Whole(p); !ok || !bytes.Equal(got, b) {
			t.Fatalf("what was cut is not whole again")
		}
	}
	base, _ := snap.Bytes(api.Snapshot{Canvas: blank(t, 2, 1), Folded: 3, Start: 5, Base: of(1)})
	for range 2000 {
		b := bytes.Clone(base)
		b[r.Intn(len(b))] = byte(r.Intn(256)) >> r.Intn(8)
		if s, e := snap.Read(b); e == api.OK {
			if again, e := snap.Bytes(s); e != api.OK || !bytes.Equal(again, b) {
				t.Fatalf("what is read has other bytes")
			}
		}
	}
}
