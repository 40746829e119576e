package flood_test

import (
	"math"
	"math/rand"
	"slices"
	"testing"

	"gesso/api"
	"gesso/canvas"
	"gesso/flood"
	"gesso/pixel"
	"gesso/shape"
)

var red = api.Color{R: 255, A: 255}

func at(x, y int) api.Point { return api.Point{X: x, Y: y} }

func blank(t *testing.T, wide, high int) *canvas.Canvas {
	t.Helper()
	c, e := canvas.New(wide, high)
	if e != api.OK {
		t.Fatal(e)
	}
	return c
}

func example(t *testing.T) *canvas.Canvas {
	return blank(t, 1, 1).Set(red, at(0, 1), at(1, 1), at(1, 0))
}

// noise is a canvas of few colours, that are near each other, more or less.
func noise(r *rand.Rand, t *testing.T, wide, high int) *canvas.Canvas {
	c := blank(t, wide, high)
	var dots []api.Dot
	for y := range 8 * high {
		for x := range 8 * wide {
			dots = append(dots, api.Dot{X: x, Y: y, Color: api.Color{R: byte(10 * r.Intn(3))}})
		}
	}
	return c.With(dots...)
}

// far is the steps to each pixel of a region, by the chapter's words: as long as any can be added, it is.
func far(c *canvas.Canvas, p api.Point, tolerance int, free func(api.Point) bool) map[api.Point]int {
	first, _ := c.At(p.X, p.Y)
	m := map[api.Point]int{p: 0}
	for last := []api.Point{p}; len(last) > 0; {
		var next []api.Point
		for _, q := range last {
			for _, n := range []api.Point{at(q.X+1, q.Y), at(q.X-1, q.Y), at(q.X, q.Y+1), at(q.X, q.Y-1)} {
				color, on := c.At(n.X, n.Y)
				if _, met := m[n]; on && !met && free(n) && pixel.Far(first, color) <= tolerance {
					m[n] = m[q] + 1
					next = append(next, n)
				}
			}
		}
		last = next
	}
	return m
}

func all(api.Point) bool { return true }

// P8.1, P8.5
func TestRegionSteps(t *testing.T) {
	c := example(t)
	if got, e := flood.Region(c, at(0, 0), 0); e != api.OK || !slices.Equal(got, []api.Span{{}}) {
		t.Errorf("Region: %v %d", got, e)
	}
	if got, e := flood.Region(c, at(1, 0), 0); e != api.OK || !slices.Equal(got, []api.Span{{Y: 0, From: 1, To: 1}, {Y: 1, From: 0, To: 1}}) {
		t.Errorf("Region: %v %d", got, e)
	}
	if n, e := flood.Steps(c, at(1, 0), at(0, 1), 0); n != 2 || e != api.OK {
		t.Errorf("Steps: %d %d", n, e)
	}
	if n, e := flood.Steps(c, at(0, 0), at(1, 0), 0); n != 0 || e != api.ErrNone {
		t.Errorf("Steps: %d %d", n, e)
	}
	r := rand.New(rand.NewSource(1))
	for i := range 40 {
		c := noise(r, t, 1+i%3, 1+i%2)
		w, h := c.Size()
		p, tolerance := at(r.Intn(w), r.Intn(h)), []int{0, 9, 10, 19, 20, api.MaxFar}[r.Intn(6)]
		want := far(c, p, tolerance, all)
		got, e := flood.Region(c, p, tolerance)
		if e != api.OK || shape.Check(got) != api.OK || shape.Count(got) != len(want) {
			t.Fatalf("Region(%v, %d): %d pixels, not %d, %d", p, tolerance, shape.Count(got), len(want), e)
		}
		for y := range h {
			for x := range w {
				steps, in := want[at(x, y)]
				if shape.Has(got, at(x, y)) != in {
					t.Errorf("Region(%v, %d) at %d %d", p, tolerance, x, y)
				}
				if n, e := flood.Steps(c, p, at(x, y), tolerance); n != steps || (e == api.OK) != in || !in && e != api.ErrNone {
					t.Errorf("Steps(%v, %d %d, %d) = %d %d", p, x, y, tolerance, n, e)
				}
			}
		}
	}
}

// P8.2, P8.6
func TestFill(t *testing.T) {
	r := rand.New(rand.NewSource(2))
	for range 40 {
		c := noise(r, t, 2, 1)
		show := c.Show()
		p, tolerance := at(r.Intn(16), r.Intn(8)), 10*r.Intn(3)
		l, _ := flood.Region(c, p, tolerance)
		got, e := flood.Fill(c, p, tolerance, red)
		if e != api.OK {
			t.Fatalf("Fill: %d", e)
		}
		for y := range 8 {
			for x := range 16 {
				want, _ := c.At(x, y)
				if shape.Has(l, at(x, y)) {
					want = red
				}
				if is, _ := got.At(x, y); is != want {
					t.Errorf("Fill(%v, %d) at %d %d: %v", p, tolerance, x, y, is)
				}
			}
		}
		if !canvas.Alike(show, c.Show()) {
			t.Errorf("the canvas was changed")
		}
		if filled, _ := flood.Region(got, p, 0); shape.Count(filled) < shape.Count(l) {
			t.Errorf("filled, the region is less")
		}
		if wide, _ := flood.Region(c, p, tolerance+10); shape.Count(wide) < shape.Count(l) {
			t.Errorf("by a greater tolerance the region is less")
		}
		if whole, _ := flood.Region(c, p, api.MaxFar); shape.Count(whole) != 128 {
			t.Errorf("by MaxFar it is not all")
		}
	}
}

// P8.3
func TestParts(t *testing.T) {
	if got, e := flood.Parts(example(t), 0, api.MaxFar); e != api.OK || !slices.Equal(got, []int{3, 1}) {
		t.Errorf("Parts: %v %d", got, e)
	}
	if got, e := flood.Parts(example(t)); e != api.OK || len(got) != 0 {
		t.Errorf("Parts of no tolerance: %v %d", got, e)
	}
	r := rand.New(rand.NewSource(3))
	for range 30 {
		c := noise(r, t, 2, 1)
		var want []int
		tolerances := []int{0, 10, 15, 20, 0}
		for _, tolerance := range tolerances {
			in, many := map[api.Point]bool{}, 0
			for y := range 8 {
				for x := range 16 {
					if in[at(x, y)] {
						continue
					}
					many++
					for p := range far(c, at(x, y), tolerance, func(p api.Point) bool { return !in[p] }) {
						in[p] = true
					}
				}
			}
			want = append(want, many)
		}
		if got, e := flood.Parts(c, tolerances...); e != api.OK || !slices.Equal(got, want) {
			t.Errorf("Parts: %v, not %v, %d", got, want, e)
		}
	}
}

// P8.4
func TestRim(t *testing.T) {
	c := blank(t, 2, 2)
	if got, e := flood.Rim(c, []api.Span{{}}); e != api.OK || !slices.Equal(got, []api.Point{at(0, 0)}) {
		t.Errorf("Rim: %v %d", got, e)
	}
	if got, e := flood.Rim(c, nil); e != api.OK || len(got) != 0 {
		t.Errorf("Rim of nothing: %v %d", got, e)
	}
	square, _ := shape.Rect(at(3, 3), at(5, 5))
	if got, _ := flood.Rim(c, square); len(got) != 8 || slices.Contains(got, at(4, 4)) {
		t.Errorf("Rim of a square: %v", got)
	}
	whole, _ := shape.Rect(at(0, 0), at(15, 15))
	if got, _ := flood.Rim(c, whole); len(got) != 60 || got[0] != at(0, 0) || got[59] != at(15, 15) || slices.Contains(got, at(1, 1)) {
		t.Errorf("Rim of all: %v", got)
	}
	ring := []api.Span{{Y: 3, From: 3, To: 7}, {Y: 4, From: 3, To: 7}, {Y: 5, From: 3, To: 4}, {Y: 5, From: 6, To: 7}, {Y: 6, From: 3, To: 7}, {Y: 7, From: 3, To: 7}}
	if got, _ := flood.Rim(c, ring); len(got) != 20 || slices.Contains(got, at(4, 4)) || !slices.Contains(got, at(5, 4)) {
		t.Errorf("Rim of a ring: %v", got)
	}
	for _, l := range [][]api.Span{{{Y: 16}}, {{Y: 0, From: 0, To: 16}}, {{Y: -1}}, {{Y: 0, From: -1, To: 0}}} {
		if got, e := flood.Rim(c, l); e != api.ErrNone || got != nil {
			t.Errorf("Rim(%v): %d", l, e)
		}
	}
	if got, e := flood.Rim(c, []api.Span{{Y: 16, From: 3, To: 1}}); e != api.ErrSpans || got != nil {
		t.Errorf("Rim of no row: %d", e)
	}
}

// The errors, in their order.
func TestErrors(t *testing.T) {
	c := blank(t, 1, 1)
	for _, x := range []struct {
		c         *canvas.Canvas
		p         api.Point
		tolerance int
		e         api.Errno
	}{
		{nil, at(9, 9), -1, api.ErrNil}, {c, at(9, 9), -1, api.ErrArg}, {c, at(0, 0), 1021, api.ErrArg}, {c, at(0, 0), math.MinInt, api.ErrArg},
		{c, at(8, 0), 0, api.ErrNone}, {c, at(0, 8), 0, api.ErrNone}, {c, at(-1, 0), 0, api.ErrNone}, {c, at(math.MaxInt, math.MinInt), 0, api.ErrNone},
	} {
		if got, e := flood.Region(x.c, x.p, x.tolerance); e != x.e || got != nil {
			t.Errorf("Region(%v, %d): %d", x.p, x.tolerance, e)
		}
		if got, e := flood.Fill(x.c, x.p, x.tolerance, red); e != x.e || got != nil {
			t.Errorf("Fill(%v, %d): %d", x.p, x.tolerance, e)
		}
		if n, e := flood.Steps(x.c, x.p, at(0, 0), x.tolerance); e != x.e || n != 0 {
			t.Errorf("Steps(%v, %d): %d", x.p, x.tolerance, e)
		}
		if n, e := flood.Steps(x.c, at(0, 0), x.p, x.tolerance); e != x.e || n != 0 {
			t.Errorf("Steps to %v, %d: %d", x.p, x.tolerance, e)
		}
	}
	if got, e := flood.Parts(nil, -1); e != api.ErrNil || got != nil {
		t.Errorf("Parts of nil: %d", e)
	}
	if got, e := flood.Parts(c, 0, 1021); e != api.ErrArg || got != nil {
		t.Errorf("Parts(1021): %d", e)
	}
	if got, e := flood.Rim(nil, []api.Span{{From: 1}}); e != api.ErrNil || got != nil {
		t.Errorf("Rim of nil: %d", e)
	}
}
