package tile_test

import (
	"math"
	"math/rand"
	"slices"
	"testing"

	"gesso/api"
	"gesso/tile"
)

var (
	blank = api.Color{}
	red   = api.Color{R: 255, A: 255}
	blue  = api.Color{B: 255, A: 255}
)

func at(x, y int) api.Point { return api.Point{X: x, Y: y} }

func example(t *testing.T) api.Tile {
	t.Helper()
	a, e := tile.With(tile.New(blank), red, at(1, 0), at(2, 3))
	if e != api.OK {
		t.Fatalf("With: %d", e)
	}
	return a
}

func random(r *rand.Rand) api.Tile {
	var t api.Tile
	for i := range t {
		t[i] = []api.Color{blank, red, blue}[r.Intn(3)]
	}
	return t
}

var outside = []api.Point{at(8, 0), at(-1, 0), at(0, 8), at(0, -1), at(math.MaxInt, 0), at(0, math.MinInt), at(0, math.MaxInt), at(-8, 1)}

// P4.1
func TestNewAt(t *testing.T) {
	n := tile.New(red)
	for _, c := range n {
		if c != red {
			t.Fatalf("New: %v", c)
		}
	}
	var a api.Tile
	for i := range a {
		a[i] = api.Color{R: byte(i)}
	}
	for i := range a {
		if c, e := tile.At(a, i%8, i/8); e != api.OK || c != a[i] {
			t.Errorf("At %d: %v %d", i, c, e)
		}
	}
	for _, p := range outside {
		if c, e := tile.At(n, p.X, p.Y); e != api.ErrPlace || c != blank {
			t.Errorf("At(%v): %v %d", p, c, e)
		}
	}
}

// P4.2
func TestWith(t *testing.T) {
	a := example(t)
	for i, c := range a {
		if want := i == 1 || i == 26; (c == red) != want {
			t.Errorf("With: %d is %v", i, c)
		}
	}
	if b, e := tile.With(a, blue); e != api.OK || b != a {
		t.Errorf("With of no place: %d", e)
	}
	if b, e := tile.With(a, blue, at(7, 7), at(7, 7), at(1, 0)); e != api.OK || b[63] != blue || b[1] != blue || tile.Count(b, blue) != 2 {
		t.Errorf("With: %d", e)
	}
	for _, p := range outside {
		if b, e := tile.With(a, blue, at(0, 0), p, at(1, 1)); e != api.ErrPlace || b != (api.Tile{}) {
			t.Errorf("With(%v): %d", p, e)
		}
	}
}

// P4.3
func TestColors(t *testing.T) {
	a := example(t)
	if tile.Runs(a) != 5 || tile.Count(a, red) != 2 || tile.Count(a, blank) != 62 || tile.Count(a, blue) != 0 {
		t.Errorf("Runs %d, Count %d", tile.Runs(a), tile.Count(a, red))
	}
	if got := tile.Colors(a); !slices.Equal(got, []api.Color{blank, red}) {
		t.Errorf("Colors: %v", got)
	}
	b, _ := tile.With(a, blue, at(0, 0))
	if got := tile.Colors(b); !slices.Equal(got, []api.Color{blue, red, blank}) {
		t.Errorf("Colors: %v", got)
	}
	if tile.Runs(tile.New(red)) != 1 {
		t.Errorf("Runs of one colour")
	}
	over, _ := tile.With(tile.New(blank), red, at(7, 0), at(0, 1))
	if tile.Runs(over) != 3 {
		t.Errorf("a run goes on in the next row: %d", tile.Runs(over))
	}
	var all api.Tile
	for i := range all {
		all[i] = api.Color{G: byte(i)}
	}
	if tile.Runs(all) != 64 || !slices.Equal(tile.Colors(all), all[:]) {
		t.Errorf("all of other colours")
	}
}

// P4.4
func TestBox(t *testing.T) {
	a := example(t)
	if box, ok := tile.Box(a, tile.New(blank)); !ok || box != (api.Box{X: 1, Y: 0, X2: 2, Y2: 3}) {
		t.Errorf("Box: %v %t", box, ok)
	}
	if box, ok := tile.Box(a, a); ok || box != (api.Box{}) {
		t.Errorf("Box of the same: %v %t", box, ok)
	}
	if box, ok := tile.Box(tile.New(red), tile.New(blank)); !ok || box != (api.Box{X2: 7, Y2: 7}) {
		t.Errorf("Box of all: %v", box)
	}
	for _, p := range []api.Point{at(0, 0), at(7, 7), at(0, 7), at(7, 0), at(3, 4)} {
		b, _ := tile.With(a, blue, p)
		if box, ok := tile.Box(b, a); !ok || box != (api.Box{X: p.X, Y: p.Y, X2: p.X, Y2: p.Y}) {
			t.Errorf("Box of %v: %v %t", p, box, ok)
		}
	}
}

// P4.5
func TestTurn(t *testing.T) {
	a := example(t)
	b := tile.Turn(a, 1)
	if tile.Count(b, red) != 2 {
		t.Errorf("Turn: %d red", tile.Count(b, red))
	}
	for _, p := range []api.Point{at(7, 1), at(4, 2)} {
		if c, _ := tile.At(b, p.X, p.Y); c != red {
			t.Errorf("Turn: %v at %v", c, p)
		}
	}
	r := rand.New(rand.NewSource(1))
	x := random(r)
	one := tile.Turn(x, 1)
	for i := range x {
		if p := at(7-i/8, i%8); one[p.Y*8+p.X] != x[i] {
			t.Fatalf("Turn: the pixel %d", i)
		}
	}
	two, three := tile.Turn(one, 1), tile.Turn(tile.Turn(one, 1), 1)
	for _, y := range []struct {
		quarters int
		want     api.Tile
	}{{0, x}, {4, x}, {-4, x}, {2, two}, {3, three}, {-1, three}, {-2, two}, {-3, one}, {5, one}, {-5, three}, {math.MaxInt, three}, {math.MinInt, x}, {math.MinInt + 1, one}} {
		if tile.Turn(x, y.quarters) != y.want {
			t.Errorf("Turn by %d", y.quarters)
		}
	}
}

// P4.5
func TestFlipShift(t *testing.T) {
	r := rand.New(rand.NewSource(2))
	x := random(r)
	f := tile.Flip(x)
	for i := range x {
		if f[i/8*8+7-i%8] != x[i] {
			t.Fatalf("Flip: the pixel %d", i)
		}
	}
	for _, d := range []api.Point{at(0, 0), at(1, 0), at(-1, 0), at(0, 1), at(0, -1), at(3, -5), at(7, 7), at(-7, -7), at(8, 0), at(0, -8), at(math.MaxInt, 1), at(0, math.MinInt), at(math.MinInt, math.MaxInt), at(math.MinInt+3, 0)} {
		want := tile.New(blue)
		for i, c := range x {
			if px, py := float64(i%8)+float64(d.X), float64(i/8)+float64(d.Y); px >= 0 && px < 8 && py >= 0 && py < 8 {
				want[int(py)*8+int(px)] = c
			}
		}
		if tile.Shift(x, d.X, d.Y, blue) != want {
			t.Errorf("Shift by %v", d)
		}
	}
	a := tile.Shift(example(t), -1, 0, red)
	if a[0] != red || a[47] != red || a[6] != blank {
		t.Errorf("the chapter's Shift: %v", a)
	}
}

// P4.6
func TestFollows(t *testing.T) {
	r := rand.New(rand.NewSource(3))
	for range 50 {
		x, y := random(r), random(r)
		if tile.Flip(tile.Flip(x)) != x || tile.Flip(tile.Turn(tile.Flip(x), 1)) != tile.Turn(x, -1) {
			t.Errorf("Flip twice, or about a turn")
		}
		for _, c := range []api.Color{blank, red, blue} {
			if tile.Count(tile.Turn(x, 1), c) != tile.Count(x, c) || tile.Count(tile.Flip(x), c) != tile.Count(x, c) {
				t.Errorf("colours come, or go")
			}
		}
		z, _ := tile.With(x, blue, at(r.Intn(8), r.Intn(8)), at(r.Intn(8), r.Intn(8)))
		for _, other := range []api.Tile{y, z} {
			box, _ := tile.Box(x, other)
			for i := range x {
				if p := at(i%8, i/8); x[i] != other[i] && (p.X < box.X || p.X > box.X2 || p.Y < box.Y || p.Y > box.Y2) {
					t.Errorf("Box leaves out %v", p)
				}
			}
		}
	}
}
