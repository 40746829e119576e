package runs_test

import (
	"bytes"
	"math/rand"
	"testing"

	"gesso/api"
	"gesso/canvas"
	"gesso/runs"
	"gesso/tile"
)

var red = api.Color{R: 255, A: 255}

func at(x, y int) api.Point { return api.Point{X: x, Y: y} }

func with(t api.Tile, c api.Color, l ...api.Point) api.Tile {
	t, _ = tile.With(t, c, l...)
	return t
}

func of(wide, high int, tiles ...api.Tile) api.Canvas {
	return api.Canvas{Wide: wide, High: high, Tiles: tiles}
}

func random(r *rand.Rand) api.Tile {
	switch r.Intn(4) {
	case 0:
		return api.Tile{}
	case 1:
		return tile.New(red)
	}
	var t api.Tile
	many := 1 + r.Intn(4)
	for i := range t {
		t[i] = api.Color{R: byte(r.Intn(many)), G: 1, B: 2, A: 3}
	}
	return t
}

var bad = []api.Canvas{{}, of(1, 1), of(2, 1, api.Tile{}), of(5, 1, make([]api.Tile, 5)...), of(0, 0), of(-1, -1, api.Tile{})}

// P10.1
func TestTile(t *testing.T) {
	if got := runs.Tile(api.Tile{}); !bytes.Equal(got, []byte{64, 0, 0, 0, 0}) {
		t.Errorf("Tile(blank): %v", got)
	}
	x := with(tile.New(api.Color{R: 1, G: 2, B: 3, A: 4}), red, at(2, 0), at(7, 0), at(0, 1), at(7, 7))
	want := []byte{2, 1, 2, 3, 4, 1, 255, 0, 0, 255, 4, 1, 2, 3, 4, 2, 255, 0, 0, 255, 54, 1, 2, 3, 4, 1, 255, 0, 0, 255}
	if got := runs.Tile(x); !bytes.Equal(got, want) {
		t.Errorf("Tile: %v", got)
	}
	for _, b := range [][]byte{want, append(bytes.Clone(want), 9, 9), append(bytes.Clone(want), want...)} {
		if got, n, e := runs.ReadTile(b); e != api.OK || n != 30 || got != x {
			t.Errorf("ReadTile: %d %d", n, e)
		}
	}
	for name, b := range map[string][]byte{
		"two alike behind one pixel": {1, 0, 0, 0, 0, 63, 0, 0, 0, 0}, "nothing": nil, "short": {64, 0, 0, 0}, "two alike": {32, 0, 0, 0, 0, 32, 0, 0, 0, 0}, "too many": {65, 0, 0, 0, 0},
		"none": {0, 0, 0, 0, 0, 64, 1, 0, 0, 0}, "too many together": {63, 0, 0, 0, 0, 2, 1, 1, 1, 1}, "too few": {63, 0, 0, 0, 0},
		"none behind": {63, 0, 0, 0, 0, 0, 1, 1, 1, 1, 1, 2, 2, 2, 2}, "short behind": {63, 0, 0, 0, 0, 1, 1, 1, 1}, "all": {255, 0, 0, 0, 0},
	} {
		if got, n, e := runs.ReadTile(b); e != api.ErrRuns || n != 0 || got != (api.Tile{}) {
			t.Errorf("ReadTile of %s: %d %d", name, n, e)
		}
	}
}

// P10.2
func TestCanvas(t *testing.T) {
	one := with(api.Tile{}, red, at(0, 0))
	for _, x := range []struct {
		c    api.Canvas
		want []byte
	}{
		{of(2, 1, api.Tile{}, api.Tile{}), []byte{2, 1, 0, 0}},
		{of(1, 1, one), []byte{1, 1, 1, 255, 0, 0, 255, 63, 0, 0, 0, 0}},
		{of(1, 3, tile.New(red), tile.New(red), api.Tile{}), []byte{1, 3, 64, 255, 0, 0, 255, 0, 64, 0, 0, 0, 0}},
		{of(2, 2, api.Tile{}, tile.New(red), tile.New(red), tile.New(red)), []byte{2, 2, 0, 64, 255, 0, 0, 255, 0, 0}},
	} {
		got, e := runs.Canvas(x.c)
		if e != api.OK || !bytes.Equal(got, x.want) {
			t.Errorf("Canvas: %v, not %v, %d", got, x.want, e)
		}
		if c, n, e := runs.ReadCanvas(append(bytes.Clone(x.want), 7, 7)); e != api.OK || n != len(x.want) || !canvas.Alike(c, x.c) {
			t.Errorf("ReadCanvas(%v): %d %d", x.want, n, e)
		}
		for n := range x.want {
			if c, n, e := runs.ReadCanvas(x.want[:n]); e != api.ErrRuns || n != 0 || !canvas.Alike(c, api.Canvas{}) {
				t.Errorf("ReadCanvas(%v): %d %d", x.want[:n], n, e)
			}
		}
	}
	for _, b := range [][]byte{{1, 1, 64, 0, 0, 0, 0}, {0, 1, 0}, {1, 0, 0}, {5, 1, 0, 0, 0, 0, 0}, {1, 5, 0, 0, 0, 0, 0}, {2, 1, 64, 1, 0, 0, 0, 64, 1, 0, 0, 0}, {2, 1, 0, 64, 0, 0, 0, 0}, {1, 1, 63, 0, 0, 0, 0, 0}, {1, 1, 65, 1, 0, 0, 0}} {
		if c, n, e := runs.ReadCanvas(b); e != api.ErrRuns || n != 0 || !canvas.Alike(c, api.Canvas{}) {
			t.Errorf("ReadCanvas(%v): %d %d", b, n, e)
		}
	}
	if _, n, e := runs.ReadCanvas([]byte{1, 1, 0, 9}); n != 3 || e != api.OK {
		t.Errorf("ReadCanvas with more behind: %d %d", n, e)
	}
	for _, c := range bad {
		if got, e := runs.Canvas(c); e != api.ErrCanvas || got != nil {
			t.Errorf("Canvas(%d, %d): %d", c.Wide, c.High, e)
		}
	}
}

// P10.3
func TestPatch(t *testing.T) {
	a := of(2, 1, api.Tile{}, tile.New(red))
	b := of(2, 1, tile.New(red), tile.New(red))
	got, e := runs.Patch(a, b)
	if e != api.OK || !bytes.Equal(got, []byte{2, 1, 64, 255, 0, 0, 255, 0}) {
		t.Errorf("Patch: %v %d", got, e)
	}
	if got, e := runs.Patch(of(1, 1, tile.New(red)), of(1, 1, tile.New(red))); e != api.OK || !bytes.Equal(got, []byte{1, 1, 0}) {
		t.Errorf("Patch of the same: %v %d", got, e)
	}
	if c, n, e := runs.Apply(a, append(bytes.Clone(got), 5)); e != api.OK || n != 8 || !canvas.Alike(c, b) {
		t.Errorf("Apply: %d %d", n, e)
	}
	for _, p := range [][]byte{nil, {2}, {2, 1}, {2, 1, 0}, {1, 2, 0, 0}, {1, 1, 0}, {2, 1, 64, 0, 0, 0, 0, 0}, {2, 1, 0, 64, 255, 0, 0, 255}, {2, 1, 64, 255, 0, 0, 255}, {0, 0}, {9, 9, 0}} {
		if c, n, e := runs.Apply(a, p); e != api.ErrRuns || n != 0 || !canvas.Alike(c, api.Canvas{}) {
			t.Errorf("Apply(%v): %d %d", p, n, e)
		}
	}
	if got, e := runs.Patch(a, of(1, 2, a.Tiles...)); e != api.ErrArg || got != nil {
		t.Errorf("Patch to other sizes: %d", e)
	}
	for _, c := range []api.Canvas{of(2, 2, make([]api.Tile, 4)...), of(1, 1, api.Tile{}), of(1, 2, a.Tiles...)} {
		if got, e := runs.Patch(a, c); e != api.ErrArg || got != nil {
			t.Errorf("Patch to %d by %d: %d", c.Wide, c.High, e)
		}
		if got, e := runs.Patch(c, a); e != api.ErrArg || got != nil {
			t.Errorf("Patch from %d by %d: %d", c.Wide, c.High, e)
		}
	}
	for _, c := range bad {
		_, e := runs.Patch(c, a)
		_, f := runs.Patch(a, c)
		_, n, g := runs.Apply(c, []byte{2, 1, 0, 0})
		if e != api.ErrCanvas || f != api.ErrCanvas || g != api.ErrCanvas || n != 0 {
			t.Errorf("of %d, %d: %d %d %d", c.Wide, c.High, e, f, g)
		}
	}
}

// P10.4
func TestSize(t *testing.T) {
	one := with(api.Tile{}, red, at(0, 0))
	if runs.Size() != 0 || runs.Size(api.Tile{}, api.Tile{}) != 10 || runs.Size(one, api.Tile{}, one) != 25 {
		t.Errorf("Size")
	}
	r := rand.New(rand.NewSource(1))
	for range 50 {
		x, y := random(r), random(r)
		if runs.Size(x, y) != len(runs.Tile(x))+len(runs.Tile(y)) {
			t.Errorf("Size of two")
		}
	}
}

// P10.5
func TestFollows(t *testing.T) {
	r := rand.New(rand.NewSource(2))
	for range 200 {
		wide, high := 1+r.Intn(4), 1+r.Intn(4)
		a, b := of(wide, high), of(wide, high)
		for range wide * high {
			x := random(r)
			a.Tiles = append(a.Tiles, x)
			if r.Intn(2) == 0 {
				x = random(r)
			}
			b.Tiles = append(b.Tiles, x)
		}
		bs, _ := runs.Canvas(a)
		if got, n, e := runs.ReadCanvas(bs); e != api.OK || n != len(bs) || !canvas.Alike(got, a) {
			t.Fatalf("ReadCanvas of Canvas: %d %d", n, e)
		}
		p, _ := runs.Patch(a, b)
		got, n, e := runs.Apply(a, p)
		if e != api.OK || n != len(p) || !canvas.Alike(got, b) {
			t.Fatalf("Apply of Patch: %d %d", n, e)
		}
		got.Tiles[0][0].R++
		if again, _ := runs.Patch(a, b); !bytes.Equal(again, p) {
			t.Fatalf("Apply shares memory")
		}
		none, _ := runs.Patch(a, a)
		if len(none) != 2+wide*high || bytes.Count(none[2:], []byte{0}) != wide*high {
			t.Errorf("Patch to itself: %v", none)
		}
		if size := len(runs.Tile(a.Tiles[0])); size < 5 || size > 320 {
			t.Errorf("a tile of %d bytes", size)
		}
		// What is read of spoilt bytes has just the bytes that were read.
		bs[2+r.Intn(len(bs)-2)] = byte(r.Intn(66))
		if c, n, e := runs.ReadCanvas(bs); e == api.OK {
			if again, f := runs.Canvas(c); f != api.OK || !bytes.Equal(again, bs[:n]) {
				t.Fatalf("what is read has other bytes")
			}
		}
	}
}
