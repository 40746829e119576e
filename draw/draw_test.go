package draw_test

import (
	"math"
	"math/rand"
	"slices"
	"testing"

	"gesso/api"
	"gesso/canvas"
	"gesso/draw"
	"gesso/pixel"
	"gesso/shape"
)

var (
	red   = api.Color{R: 255, A: 255}
	blue  = api.Color{B: 200, A: 255}
	glass = api.Color{R: 255, A: 128}
)

func at(x, y int) api.Point { return api.Point{X: x, Y: y} }

func blank(t *testing.T, wide, high int) *canvas.Canvas {
	t.Helper()
	c, e := canvas.New(wide, high)
	if e != api.OK {
		t.Fatal(e)
	}
	return c
}

// noise is a canvas of many colours.
func noise(t *testing.T, wide, high int) *canvas.Canvas {
	c := blank(t, wide, high)
	var dots []api.Dot
	for y := range 8 * high {
		for x := range 8 * wide {
			dots = append(dots, api.Dot{X: x, Y: y, Color: api.Color{R: byte(17 * x), G: byte(31 * y), B: byte(x * y), A: byte(255 - x - y)}})
		}
	}
	return c.With(dots...)
}

// check holds a canvas against what each pixel of those spans has to be.
func check(t *testing.T, what string, was, is *canvas.Canvas, e api.Errno, l []api.Span, come func(api.Color) api.Color) {
	t.Helper()
	if e != api.OK || is == nil {
		t.Fatalf("%s: %d", what, e)
	}
	w, h := was.Size()
	for y := range h {
		for x := range w {
			want, _ := was.At(x, y)
			if shape.Has(l, at(x, y)) {
				want = come(want)
			}
			if got, ok := is.At(x, y); !ok || got != want {
				t.Fatalf("%s: %d %d is %v, not %v", what, x, y, got, want)
			}
		}
	}
}

func paint(c api.Color) func(api.Color) api.Color {
	return func(api.Color) api.Color { return c }
}

func wash(c api.Color) func(api.Color) api.Color {
	return func(u api.Color) api.Color { return pixel.Over(u, c) }
}

// P7.1
func TestPaintWash(t *testing.T) {
	c := noise(t, 2, 1)
	show := c.Show()
	l := []api.Span{{Y: -3, From: 0, To: 4}, {Y: 1, From: -9, To: 2}, {Y: 1, From: 5, To: 5}, {Y: 7, From: 14, To: 99}, {Y: 8, From: 0, To: 9}, {Y: 200, From: 0, To: 9}}
	for _, rows := range [][]api.Span{l, nil, {{Y: 0, From: 0, To: 0}}, {{Y: -256, From: -256, To: 255}}} {
		got, e := draw.Paint(c, rows, red)
		check(t, "Paint", c, got, e, rows, paint(red))
		got, e = draw.Wash(c, rows, glass)
		check(t, "Wash", c, got, e, rows, wash(glass))
		if again, e := draw.Paint(c, rows, blue); e != api.OK || again.Same(got) && len(rows) > 1 {
			t.Errorf("Paint: %d", e)
		}
	}
	if !canvas.Alike(show, c.Show()) {
		t.Errorf("the canvas was changed")
	}
	for _, no := range [][]api.Span{{{Y: 0, From: 3, To: 1}}, {{Y: 0, From: 0, To: 1}, {Y: 0, From: 2, To: 3}}, {{Y: 256}}} {
		got, e := draw.Paint(c, no, red)
		washed, f := draw.Wash(c, no, red)
		if e != api.ErrSpans || f != api.ErrSpans || got != nil || washed != nil {
			t.Errorf("no row of spans: %d %d", e, f)
		}
	}
}

// P7.2
func TestStroke(t *testing.T) {
	c := noise(t, 2, 2)
	places := []api.Point{at(3, 3), at(-2, 9), at(14, 14), at(40, 40)}
	for _, b := range []api.Brush{{Color: red, Size: 0}, {Color: red, Size: 2}, {Color: blue, Size: 3, Round: true}, {Color: glass, Size: 15, Round: true}} {
		l, _ := shape.Sweep(places, b.Size, b.Round)
		got, e := draw.Stroke(c, b, places...)
		check(t, "Stroke", c, got, e, l, paint(b.Color))
		turned := slices.Clone(places)
		slices.Reverse(turned)
		if again, e := draw.Stroke(c, b, turned...); e != api.OK || !again.Same(got) {
			t.Errorf("a stroke the other way round: %d", e)
		}
	}
	if got, e := draw.Stroke(c, api.Brush{}); e != api.OK || !got.Same(c) {
		t.Errorf("Stroke along nothing: %d", e)
	}
	for _, size := range []int{-1, 16, math.MinInt} {
		if got, e := draw.Stroke(c, api.Brush{Size: size}); e != api.ErrArg || got != nil {
			t.Errorf("Stroke of size %d: %d", size, e)
		}
		if got, e := draw.Line(c, api.Brush{Size: size}, at(0, 0), at(1, 1)); e != api.ErrArg || got != nil {
			t.Errorf("Line of size %d: %d", size, e)
		}
	}
	for _, p := range []api.Point{at(128, 0), at(0, -65), at(math.MaxInt, math.MinInt)} {
		if got, e := draw.Stroke(c, api.Brush{}, at(0, 0), p); e != api.ErrArg || got != nil {
			t.Errorf("Stroke to %v: %d", p, e)
		}
		if got, e := draw.Line(c, api.Brush{}, at(0, 0), p); e != api.ErrArg || got != nil {
			t.Errorf("Line to %v: %d", p, e)
		}
		if got, e := draw.Line(c, api.Brush{}, p, at(0, 0)); e != api.ErrArg || got != nil {
			t.Errorf("Line from %v: %d", p, e)
		}
	}
}

// P7.2
func TestLine(t *testing.T) {
	c := blank(t, 1, 1)
	for _, x := range []struct{ size, many int }{{0, 4}, {1, 10}} {
		got, e := draw.Line(c, api.Brush{Color: red, Size: x.size}, at(0, 0), at(3, 0))
		if e != api.OK || len(c.Differ(got)) != x.many {
			t.Errorf("Line of size %d: %d pixels, %d", x.size, len(c.Differ(got)), e)
		}
	}
	d := noise(t, 2, 2)
	for _, b := range []api.Brush{{Color: red}, {Color: glass, Size: 1, Round: true}, {Color: blue, Size: 2}} {
		for _, to := range []api.Point{at(15, 4), at(-20, 9), at(2, 2), at(100, 127)} {
			places, _ := shape.Line(at(2, 2), to)
			l, _ := shape.Sweep(places, b.Size, b.Round)
			got, e := draw.Line(d, b, at(2, 2), to)
			check(t, "Line", d, got, e, l, paint(b.Color))
		}
	}
}

// P7.3
func TestRects(t *testing.T) {
	small := blank(t, 1, 1)
	framed, _ := draw.Frame(small, red, at(1, 1), at(3, 3))
	filled, _ := draw.Rect(small, red, at(3, 3), at(1, 1))
	if len(small.Differ(framed)) != 8 || len(small.Differ(filled)) != 9 {
		t.Errorf("Frame %d, Rect %d", len(small.Differ(framed)), len(small.Differ(filled)))
	}
	c := noise(t, 2, 2)
	r := rand.New(rand.NewSource(1))
	for range 60 {
		a, b := at(r.Intn(24)-4, r.Intn(24)-4), at(r.Intn(24)-4, r.Intn(24)-4)
		l, _ := shape.Rect(a, b)
		var frame []api.Span
		for p := range shape.All(l) {
			if p.X == a.X || p.X == b.X || p.Y == a.Y || p.Y == b.Y {
				frame, _ = shape.Union(frame, []api.Span{{Y: p.Y, From: p.X, To: p.X}})
			}
		}
		got, e := draw.Rect(c, glass, a, b)
		check(t, "Rect", c, got, e, l, paint(glass))
		got, e = draw.Frame(c, glass, a, b)
		check(t, "Frame", c, got, e, frame, paint(glass))
		got, e = draw.Veil(c, glass, a, b)
		check(t, "Veil", c, got, e, l, wash(glass))
	}
	black, _ := draw.Paint(small, []api.Span{{}}, api.Color{A: 255})
	veiled, _ := draw.Veil(black, glass, at(0, 0), at(0, 0))
	if got, _ := veiled.At(0, 0); got.R != 128 || got.A != 255 {
		t.Errorf("Veil: %v", got)
	}
	for _, p := range []api.Point{at(128, 0), at(0, -65)} {
		for name, do := range map[string]func(*canvas.Canvas, api.Color, api.Point, api.Point) (*canvas.Canvas, api.Errno){"Rect": draw.Rect, "Frame": draw.Frame, "Veil": draw.Veil} {
			x, e := do(c, red, p, at(0, 0))
			y, f := do(c, red, at(0, 0), p)
			if e != api.ErrArg || f != api.ErrArg || x != nil || y != nil {
				t.Errorf("%s of %v: %d %d", name, p, e, f)
			}
		}
	}
}

// P7.1 to P7.3: a nil canvas goes ahead of all else.
func TestNil(t *testing.T) {
	no, far := []api.Span{{Y: 0, From: 3, To: 1}}, at(999, 0)
	for name, do := range map[string]func() (*canvas.Canvas, api.Errno){
		"Paint":  func() (*canvas.Canvas, api.Errno) { return draw.Paint(nil, no, red) },
		"Wash":   func() (*canvas.Canvas, api.Errno) { return draw.Wash(nil, no, red) },
		"Stroke": func() (*canvas.Canvas, api.Errno) { return draw.Stroke(nil, api.Brush{Size: 99}, far) },
		"Line":   func() (*canvas.Canvas, api.Errno) { return draw.Line(nil, api.Brush{Size: 99}, far, far) },
		"Rect":   func() (*canvas.Canvas, api.Errno) { return draw.Rect(nil, red, far, far) },
		"Frame":  func() (*canvas.Canvas, api.Errno) { return draw.Frame(nil, red, far, far) },
		"Veil":   func() (*canvas.Canvas, api.Errno) { return draw.Veil(nil, red, far, far) },
	} {
		if c, e := do(); e != api.ErrNil || c != nil {
			t.Errorf("%s: %d", name, e)
		}
	}
}

// P7.4
func TestFollows(t *testing.T) {
	c := noise(t, 2, 2)
	l := []api.Span{{Y: 2, From: 1, To: 9}, {Y: 3, From: 4, To: 4}}
	once, _ := draw.Paint(c, l, glass)
	twice, _ := draw.Paint(once, l, glass)
	washed, _ := draw.Wash(c, l, red)
	painted, _ := draw.Paint(c, l, red)
	none, _ := draw.Wash(c, l, api.Color{R: 9, G: 9, B: 9})
	if !twice.Same(once) || !washed.Same(painted) || !none.Same(c) {
		t.Errorf("painted twice, washed by what hides, or is not there")
	}
	frame, _ := draw.Frame(c, red, at(2, 2), at(9, 7))
	both, _ := draw.Rect(frame, red, at(3, 3), at(8, 6))
	rect, _ := draw.Rect(c, red, at(2, 2), at(9, 7))
	if !both.Same(rect) || frame.Same(rect) {
		t.Errorf("a frame and what is in it are not the rectangle")
	}
}
