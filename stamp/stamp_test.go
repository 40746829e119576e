package stamp_test

import (
	"math"
	"math/rand"
	"slices"
	"testing"

	"gesso/api"
	"gesso/canvas"
	"gesso/pixel"
	"gesso/stamp"
)

var (
	a = api.Color{R: 1, A: 255}
	b = api.Color{G: 2, A: 100}
	c = api.Color{B: 3, A: 1}
	d = api.Color{R: 4}
)

func at(x, y int) api.Point { return api.Point{X: x, Y: y} }

func of(t *testing.T, wide int, l ...api.Color) api.Stamp {
	t.Helper()
	s, e := stamp.Of(wide, l...)
	if e != api.OK {
		t.Fatalf("Of(%d): %d", wide, e)
	}
	return s
}

func random(r *rand.Rand, wide, high int) api.Stamp {
	s := api.Stamp{Wide: wide, High: high}
	for range wide * high {
		x := r.Uint32()
		s.Pixels = append(s.Pixels, api.Color{R: byte(x), G: byte(x >> 8), B: byte(x >> 16), A: []byte{0, 128, 255}[r.Intn(3)]})
	}
	return s
}

func noise(r *rand.Rand, t *testing.T, wide, high int) *canvas.Canvas {
	t.Helper()
	k, e := canvas.New(wide, high)
	if e != api.OK {
		t.Fatal(e)
	}
	for y := range 8 * high {
		s := random(r, 8*wide, 1)
		for x := range 8 * wide {
			k = k.Set(s.Pixels[x], at(x, y))
		}
	}
	return k
}

var bad = []api.Stamp{{}, {Wide: 1, High: 1}, {Wide: 9, High: 1, Pixels: make([]api.Color, 9)}, {Wide: 1, High: 9, Pixels: make([]api.Color, 9)}, {Wide: 2, High: 2, Pixels: make([]api.Color, 3)}, {Wide: 2, High: 2, Pixels: make([]api.Color, 5)}, {Wide: -1, High: -1, Pixels: make([]api.Color, 1)}, {Wide: 0, High: 3}}

// P9.1
func TestNewOf(t *testing.T) {
	for _, s := range [][2]int{{0, 1}, {1, 0}, {9, 1}, {1, 9}, {-1, -1}, {math.MaxInt, math.MaxInt}, {math.MinInt, 2}, {-1, 2}, {2, -1}, {0, 0}} {
		if x, e := stamp.New(s[0], s[1], a); e != api.ErrArg || !stamp.Same(x, api.Stamp{}) {
			t.Errorf("New(%v): %d", s, e)
		}
	}
	for wide := 1; wide <= 8; wide++ {
		for high := 1; high <= 8; high++ {
			x, e := stamp.New(wide, high, b)
			if e != api.OK || x.Wide != wide || x.High != high || len(x.Pixels) != wide*high || stamp.Check(x) != api.OK || slices.ContainsFunc(x.Pixels, func(p api.Color) bool { return p != b }) {
				t.Errorf("New(%d, %d): %v %d", wide, high, x, e)
			}
		}
	}
	for _, x := range []struct{ wide, many int }{{2, 3}, {0, 0}, {0, 1}, {9, 9}, {2, 0}, {1, 9}, {8, 72}, {-1, 1}, {3, 8}, {math.MinInt, 4}} {
		if s, e := stamp.Of(x.wide, make([]api.Color, x.many)...); e != api.ErrArg || !stamp.Same(s, api.Stamp{}) {
			t.Errorf("Of(%d, %d pixels): %d", x.wide, x.many, e)
		}
	}
	l := []api.Color{a, b, c, d, a, b}
	s := of(t, 3, l...)
	if s.Wide != 3 || s.High != 2 || !slices.Equal(s.Pixels, l) {
		t.Errorf("Of: %v", s)
	}
	if l[0] = d; s.Pixels[0] != a {
		t.Errorf("Of keeps what it was handed")
	}
	of(t, 8, make([]api.Color, 64)...)
}

// P9.1
func TestCheckSame(t *testing.T) {
	for _, s := range bad {
		if stamp.Check(s) != api.ErrStamp {
			t.Errorf("Check(%v)", s)
		}
	}
	x := of(t, 2, a, b, c, d)
	wide, high := x, x
	wide.Wide, high.High = 3, 3
	if stamp.Same(x, wide) || stamp.Same(x, high) || stamp.Same(high, x) {
		t.Errorf("Same with one size that is another one")
	}
	if !stamp.Same(x, of(t, 2, a, b, c, d)) || stamp.Same(x, of(t, 4, a, b, c, d)) || stamp.Same(x, of(t, 2, a, b, c, a)) || stamp.Same(x, of(t, 2, a, b)) || !stamp.Same(api.Stamp{}, api.Stamp{Pixels: []api.Color{}}) || !stamp.Same(bad[4], bad[4]) {
		t.Errorf("Same")
	}
}

// P9.2
func TestAtWears(t *testing.T) {
	x := of(t, 2, a, b, c, d, b, d)
	for i, want := range x.Pixels {
		if got, ok := stamp.At(x, i%2, i/2); !ok || got != want {
			t.Errorf("At %d: %v %t", i, got, ok)
		}
	}
	for _, p := range []api.Point{at(2, 0), at(-1, 0), at(0, 3), at(0, -1), at(math.MaxInt, 0), at(0, math.MinInt)} {
		if got, ok := stamp.At(x, p.X, p.Y); ok || got != (api.Color{}) {
			t.Errorf("At(%v): %v %t", p, got, ok)
		}
	}
	if stamp.Wears(x) != 4 || stamp.Wears(of(t, 1, d)) != 0 {
		t.Errorf("Wears: %d", stamp.Wears(x))
	}
	for _, s := range bad {
		for i := range s.Pixels {
			s.Pixels[i].A = 9
		}
		if _, ok := stamp.At(s, 0, 0); ok || stamp.Wears(s) != 0 {
			t.Errorf("of %v something is told", s)
		}
	}
}

// P9.2
func TestTurnFlip(t *testing.T) {
	x := of(t, 2, a, b, c, d)
	for _, y := range []struct {
		quarters int
		want     []api.Color
	}{{1, []api.Color{c, a, d, b}}, {-1, []api.Color{b, d, a, c}}, {0, x.Pixels}, {4, x.Pixels}, {2, []api.Color{d, c, b, a}}, {3, []api.Color{b, d, a, c}}, {-4, x.Pixels}, {math.MinInt, x.Pixels}, {math.MaxInt, []api.Color{b, d, a, c}}} {
		if got, e := stamp.Turn(x, y.quarters); e != api.OK || !slices.Equal(got.Pixels, y.want) {
			t.Errorf("Turn by %d: %v %d", y.quarters, got, e)
		}
	}
	if got, e := stamp.Flip(x); e != api.OK || !slices.Equal(got.Pixels, []api.Color{b, a, d, c}) {
		t.Errorf("Flip: %v %d", got, e)
	}
	r := rand.New(rand.NewSource(1))
	for range 50 {
		s := random(r, 1+r.Intn(8), 1+r.Intn(8))
		turned, _ := stamp.Turn(s, 1)
		flipped, _ := stamp.Flip(s)
		if turned.Wide != s.High || turned.High != s.Wide || flipped.Wide != s.Wide || flipped.High != s.High {
			t.Fatalf("sizes of what is turned, or flipped")
		}
		for y := range s.High {
			for x := range s.Wide {
				want, _ := stamp.At(s, x, y)
				p, _ := stamp.At(turned, s.High-1-y, x)
				q, _ := stamp.At(flipped, s.Wide-1-x, y)
				if p != want || q != want {
					t.Fatalf("the pixel %d %d: %v %v", x, y, p, q)
				}
			}
		}
		// P9.5
		round, _ := stamp.Turn(s, 4)
		twice, _ := stamp.Flip(flipped)
		three, _ := stamp.Turn(turned, -1)
		if !stamp.Same(round, s) || !stamp.Same(twice, s) || !stamp.Same(three, s) {
			t.Errorf("there and back it is another one")
		}
		keep := s.Pixels[0]
		round.Pixels[0].R++
		if s.Pixels[0] != keep {
			t.Errorf("Turn shares memory")
		}
	}
	for _, s := range bad {
		x, e := stamp.Turn(s, 1)
		y, f := stamp.Flip(s)
		if e != api.ErrStamp || f != api.ErrStamp || !stamp.Same(x, y) || !stamp.Same(x, api.Stamp{}) {
			t.Errorf("of %v: %d %d", s, e, f)
		}
	}
}

// P9.3
func TestCut(t *testing.T) {
	k := noise(rand.New(rand.NewSource(2)), t, 2, 1)
	got, e := stamp.Cut(k, 3, 2, 8, 5)
	if e != api.OK || got.Wide != 8 || got.High != 5 || stamp.Check(got) != api.OK {
		t.Fatalf("Cut: %d", e)
	}
	for i, p := range got.Pixels {
		if want, _ := k.At(3+i%8, 2+i/8); p != want {
			t.Errorf("Cut: the pixel %d", i)
		}
	}
	if got, e := stamp.Cut(k, 0, 0, 8, 8); e != api.OK || len(got.Pixels) != 64 {
		t.Errorf("Cut at 0 0: %d", e)
	}
	if got, e := stamp.Cut(k, 15, 7, 1, 1); e != api.OK || len(got.Pixels) != 1 {
		t.Errorf("Cut of the last pixel: %d", e)
	}
	for _, x := range [][4]int{{15, 0, 2, 1}, {0, 7, 1, 2}, {-1, 0, 1, 1}, {0, -1, 1, 1}, {0, 0, 0, 1}, {0, 0, 1, 0}, {0, 0, 9, 1}, {0, 0, 1, 9}, {math.MaxInt, 0, 8, 1}, {math.MinInt, 0, 1, 1}, {0, math.MaxInt, 1, 8}, {0, 0, -1, -1}, {0, 0, math.MinInt, 1}} {
		if got, e := stamp.Cut(k, x[0], x[1], x[2], x[3]); e != api.ErrArg || !stamp.Same(got, api.Stamp{}) {
			t.Errorf("Cut(%v): %d", x, e)
		}
	}
	if _, e := stamp.Cut(nil, 0, 0, 9, 9); e != api.ErrNil {
		t.Errorf("Cut of nil: %d", e)
	}
}

// P9.4
func TestLay(t *testing.T) {
	r := rand.New(rand.NewSource(3))
	for range 60 {
		k, s := noise(r, t, 2, 1), random(r, 1+r.Intn(8), 1+r.Intn(8))
		show := k.Show()
		var places []api.Point
		want := map[api.Point]api.Color{}
		for y := range 8 {
			for x := range 16 {
				want[at(x, y)], _ = k.At(x, y)
			}
		}
		for range r.Intn(4) {
			p := at(r.Intn(24)-6, r.Intn(16)-6)
			places = append(places, p)
			for i, color := range s.Pixels {
				q := at(p.X+i%s.Wide, p.Y+i/s.Wide)
				if under, on := want[q]; on {
					want[q] = pixel.Over(under, color)
				}
			}
		}
		got, e := stamp.Lay(k, s, places...)
		if e != api.OK {
			t.Fatalf("Lay: %d", e)
		}
		for p, color := range want {
			if is, _ := got.At(p.X, p.Y); is != color {
				t.Fatalf("Lay(%v) at %v: %v, not %v", places, p, is, color)
			}
		}
		if !canvas.Alike(show, k.Show()) {
			t.Errorf("the canvas was changed")
		}
	}
	k, _ := canvas.New(1, 1)
	if got, e := stamp.Lay(k, of(t, 2, a, a), at(7, 0), at(math.MaxInt, 0), at(0, math.MinInt), at(math.MinInt, math.MaxInt)); e != api.OK || len(k.Differ(got)) != 1 {
		t.Errorf("Lay at the edge: %d", e)
	}
	for _, s := range bad {
		if got, e := stamp.Lay(k, s, at(0, 0)); e != api.ErrStamp || got != nil {
			t.Errorf("Lay of %v: %d", s, e)
		}
		if got, e := stamp.Lay(nil, s); e != api.ErrNil || got != nil {
			t.Errorf("Lay on nil: %d", e)
		}
	}
}

// P9.5
func TestFollows(t *testing.T) {
	r := rand.New(rand.NewSource(4))
	k, s := noise(r, t, 2, 2), random(r, 5, 6)
	for i := range s.Pixels {
		s.Pixels[i].A = 255
	}
	laid, _ := stamp.Lay(k, s, at(4, 7))
	if got, e := stamp.Cut(laid, 4, 7, 5, 6); e != api.OK || !stamp.Same(got, s) {
		t.Errorf("what is laid is not cut out again: %d", e)
	}
	none := of(t, 2, d, d, d, d)
	if got, _ := stamp.Lay(k, none, at(3, 3)); !got.Same(k) {
		t.Errorf("what wears nothing changes something")
	}
}
