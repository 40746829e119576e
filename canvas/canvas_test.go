package canvas_test

import (
	"math"
	"math/rand"
	"slices"
	"testing"

	"gesso/api"
	"gesso/canvas"
)

var (
	blank = api.Color{}
	red   = api.Color{R: 255, A: 255}
	blue  = api.Color{B: 255, A: 255}
)

func made(t *testing.T, wide, high int) *canvas.Canvas {
	t.Helper()
	c, e := canvas.New(wide, high)
	if e != api.OK || c == nil {
		t.Fatalf("New(%d, %d): %d", wide, high, e)
	}
	return c
}

func dot(x, y int, c api.Color) api.Dot { return api.Dot{X: x, Y: y, Color: c} }

// P5.1
func TestNew(t *testing.T) {
	for _, s := range [][2]int{{0, 1}, {1, 0}, {5, 1}, {1, 5}, {-1, 1}, {math.MaxInt, 1}, {1, math.MinInt}, {-1, -1}} {
		if c, e := canvas.New(s[0], s[1]); e != api.ErrArg || c != nil {
			t.Errorf("New(%v): %d", s, e)
		}
	}
	for wide := 1; wide <= 4; wide++ {
		for high := 1; high <= 4; high++ {
			show := made(t, wide, high).Show()
			if show.Wide != wide || show.High != high || len(show.Tiles) != wide*high || canvas.Check(show) != api.OK {
				t.Errorf("New(%d, %d) shows %d, %d", wide, high, show.Wide, show.High)
			}
			for _, x := range show.Tiles {
				if x != (api.Tile{}) {
					t.Errorf("New is not blank")
				}
			}
		}
	}
}

// P5.1
func TestOf(t *testing.T) {
	for _, c := range []api.Canvas{{}, {Wide: 1, High: 1}, {Wide: 1, High: 1, Tiles: make([]api.Tile, 2)}, {Wide: 5, High: 1, Tiles: make([]api.Tile, 5)}, {Wide: 1, High: 5, Tiles: make([]api.Tile, 5)}, {Wide: -1, High: -1, Tiles: make([]api.Tile, 1)}, {Wide: 0, High: 4}, {Wide: 2, High: 3, Tiles: make([]api.Tile, 5)}} {
		if canvas.Check(c) != api.ErrCanvas {
			t.Errorf("Check(%d, %d)", c.Wide, c.High)
		}
		if x, e := canvas.Of(c); e != api.ErrCanvas || x != nil {
			t.Errorf("Of(%d, %d): %d", c.Wide, c.High, e)
		}
	}
	show := api.Canvas{Wide: 2, High: 1, Tiles: make([]api.Tile, 2)}
	show.Tiles[1][9] = red
	c, e := canvas.Of(show)
	if e != api.OK || !canvas.Alike(c.Show(), show) {
		t.Fatalf("Of: %d", e)
	}
	if x, ok := c.At(9, 1); !ok || x != red {
		t.Errorf("Of: %v", x)
	}
	show.Tiles[1][9] = blue
	got := c.Show()
	got.Tiles[1][9] = blue
	if x, _ := c.At(9, 1); x != red {
		t.Errorf("a canvas keeps, or hands out, memory that is another's")
	}
}

// P5.1
func TestAlike(t *testing.T) {
	a, b := made(t, 2, 1).Show(), made(t, 2, 1).Show()
	if !canvas.Alike(a, b) || canvas.Alike(a, made(t, 1, 2).Show()) || canvas.Alike(a, made(t, 1, 1).Show()) || !canvas.Alike(api.Canvas{}, api.Canvas{Tiles: []api.Tile{}}) {
		t.Errorf("Alike by sizes")
	}
	wide, high := a, a
	wide.Wide, high.High = 3, 3
	if canvas.Alike(a, wide) || canvas.Alike(a, high) || canvas.Alike(high, a) {
		t.Errorf("Alike with one size that is another one")
	}
	b.Tiles[1][63] = red
	if canvas.Alike(a, b) {
		t.Errorf("Alike of others")
	}
}

// P5.2
func TestAt(t *testing.T) {
	c := made(t, 2, 3)
	if w, h := c.Size(); w != 16 || h != 24 {
		t.Errorf("Size: %d %d", w, h)
	}
	var dots []api.Dot
	for y := range 24 {
		for x := range 16 {
			dots = append(dots, dot(x, y, api.Color{R: byte(x), G: byte(y), B: 1}))
		}
	}
	full := c.With(dots...)
	for _, d := range dots {
		if x, ok := full.At(d.X, d.Y); !ok || x != d.Color {
			t.Errorf("At(%d, %d): %v %t", d.X, d.Y, x, ok)
		}
		if show := full.Show(); show.Tiles[d.Y/8*2+d.X/8][d.Y%8*8+d.X%8] != d.Color {
			t.Fatalf("Show at %d %d", d.X, d.Y)
		}
	}
	for _, p := range [][2]int{{16, 0}, {0, 24}, {-1, 0}, {0, -1}, {math.MaxInt, 0}, {0, math.MinInt}, {math.MinInt, math.MinInt}} {
		if x, ok := full.At(p[0], p[1]); ok || x != blank {
			t.Errorf("At(%v): %v %t", p, x, ok)
		}
	}
}

// P5.3, P5.5
func TestWith(t *testing.T) {
	c := made(t, 2, 1)
	d := c.With(dot(9, 1, red), dot(99, 0, red), dot(-1, 0, red), dot(0, math.MaxInt, red))
	if x, _ := d.At(9, 1); x != red || canvas.Shared(c, d) != 1 || !slices.Equal(c.Differ(d), []api.Point{{X: 9, Y: 1}}) {
		t.Errorf("With: %v, %d shared, %v", x, canvas.Shared(c, d), c.Differ(d))
	}
	if x, _ := c.At(9, 1); x != blank {
		t.Errorf("the old one was changed")
	}
	if canvas.Shared(c, c.With()) != 2 || canvas.Shared(c, c.With(dot(3, 3, blank))) != 2 {
		t.Errorf("tiles that do not differ are not shared")
	}
	if e := c.With(dot(3, 3, red), dot(3, 3, blank)); canvas.Shared(c, e) != 2 || !e.Same(c) {
		t.Errorf("painted, and back: %d", canvas.Shared(c, e))
	}
	if x, _ := c.With(dot(1, 1, red), dot(1, 1, blue)).At(1, 1); x != blue {
		t.Errorf("dots are not painted in order")
	}
	back := d.With(dot(9, 1, blank))
	if !back.Same(c) || canvas.Shared(back, c) != 1 || canvas.Shared(back, d) != 1 {
		t.Errorf("a tile that differed is shared again: %d", canvas.Shared(back, c))
	}
	s := c.Set(blue, api.Point{X: 0, Y: 0}, api.Point{X: 15, Y: 7}, api.Point{X: 16, Y: 7})
	if got := c.Differ(s); !slices.Equal(got, []api.Point{{X: 0, Y: 0}, {X: 15, Y: 7}}) {
		t.Errorf("Set: %v", got)
	}
	if x, _ := s.At(15, 7); x != blue {
		t.Errorf("Set: %v", x)
	}
	if !c.Set(red).Same(c) {
		t.Errorf("Set of nothing")
	}
}

// P5.4
func TestSame(t *testing.T) {
	c, d := made(t, 2, 2), made(t, 2, 2)
	if !c.Same(d) || !c.Same(c) || c.Differ(d) != nil || c.Same(made(t, 2, 1)) || c.Same(made(t, 1, 2)) {
		t.Errorf("Same of blanks")
	}
	d = d.With(dot(15, 15, red), dot(3, 9, red), dot(8, 0, red), dot(2, 9, red))
	if c.Same(d) || d.Same(c) {
		t.Errorf("Same of others")
	}
	if got := c.Differ(d); !slices.Equal(got, []api.Point{{X: 8, Y: 0}, {X: 2, Y: 9}, {X: 3, Y: 9}, {X: 15, Y: 15}}) {
		t.Errorf("Differ: %v", got)
	}
	if c.Differ(made(t, 2, 1).With(dot(0, 0, red))) != nil {
		t.Errorf("Differ of other sizes")
	}
}

// P5.5
func TestShared(t *testing.T) {
	c, d := made(t, 2, 1), made(t, 2, 1)
	of, _ := canvas.Of(c.Show())
	if canvas.Shared(c, c) != 2 || canvas.Shared(c, d) != 0 || canvas.Shared(c, of) != 0 || canvas.Shared(c, made(t, 2, 2)) != 0 || canvas.Shared(c, made(t, 1, 2)) != 0 {
		t.Errorf("Shared of what has no common tile")
	}
	e := c
	for i := range 6 {
		e = e.With(dot(i, i, red))
	}
	if canvas.Shared(c, e) != 1 {
		t.Errorf("from version to version: %d", canvas.Shared(c, e))
	}
}

// P5.5
func TestNil(t *testing.T) {
	var none *canvas.Canvas
	c := made(t, 1, 1)
	w, h := none.Size()
	_, ok := none.At(0, 0)
	if !canvas.Alike(none.Show(), api.Canvas{}) || w != 0 || h != 0 || ok || canvas.Shared(none, c) != 0 || canvas.Shared(c, none) != 0 || canvas.Shared(none, none) != 0 {
		t.Errorf("a nil canvas tells something")
	}
	if none.With(dot(0, 0, red)) != nil || none.Set(red, api.Point{}) != nil || !none.Same(nil) || none.Same(c) || c.Same(nil) || none.Differ(c) != nil || c.Differ(nil) != nil {
		t.Errorf("a nil canvas is something")
	}
}

// P5.6
func TestFollows(t *testing.T) {
	r := rand.New(rand.NewSource(1))
	c := made(t, 3, 2)
	for range 200 {
		old, was := c, c.Show()
		var dots []api.Dot
		tiles := map[[2]int]bool{}
		for range r.Intn(4) {
			d := dot(r.Intn(30)-3, r.Intn(20)-2, []api.Color{blank, red, blue}[r.Intn(3)])
			dots = append(dots, d)
			if d.X >= 0 && d.X < 24 && d.Y >= 0 && d.Y < 16 {
				tiles[[2]int{d.X / 8, d.Y / 8}] = true
			}
		}
		c = c.With(dots...)
		if canvas.Shared(old, c) < 6-len(tiles) || !canvas.Alike(old.Show(), was) {
			t.Fatalf("painted on an older one, or not shared")
		}
		changed := map[[2]int]bool{}
		for _, p := range old.Differ(c) {
			changed[[2]int{p.X / 8, p.Y / 8}] = true
			if !slices.ContainsFunc(dots, func(d api.Dot) bool { return d.X == p.X && d.Y == p.Y }) {
				t.Fatalf("%v differs", p)
			}
		}
		if canvas.Shared(old, c) != 6-len(changed) {
			t.Fatalf("%d shared, %d tiles differ", canvas.Shared(old, c), len(changed))
		}
		if of, e := canvas.Of(c.Show()); e != api.OK || !of.Same(c) {
			t.Fatalf("Of what it shows: %d", e)
		}
	}
}
