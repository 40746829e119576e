package shape_test

import (
	"math"
	"math/rand"
	"slices"
	"testing"

	"gesso/api"
	"gesso/shape"
)

func at(x, y int) api.Point { return api.Point{X: x, Y: y} }

func span(y, from, to int) api.Span { return api.Span{Y: y, From: from, To: to} }

var undrawn = []api.Point{at(128, 0), at(-65, 0), at(0, 128), at(0, -65), at(math.MaxInt, 0), at(0, math.MinInt)}

// has is what a row of spans has, and whether it is one, by the chapter's words.
func has(t *testing.T, l []api.Span) map[api.Point]bool {
	t.Helper()
	m := map[api.Point]bool{}
	for i, s := range l {
		if s.From > s.To || i > 0 && (s.Y < l[i-1].Y || s.Y == l[i-1].Y && s.From <= l[i-1].To+1) {
			t.Fatalf("no row of spans: %v", l)
		}
		for x := s.From; x <= s.To; x++ {
			m[at(x, s.Y)] = true
		}
	}
	return m
}

func same(a, b map[api.Point]bool) bool {
	if len(a) != len(b) {
		return false
	}
	for p := range a {
		if !b[p] {
			return false
		}
	}
	return true
}

// P6.1
func TestCheck(t *testing.T) {
	for _, l := range [][]api.Span{nil, {}, {span(0, 0, 0)}, {span(-256, -256, 255), span(255, -256, 255)}, {span(0, 0, 2), span(0, 4, 4)}, {span(0, 5, 5), span(1, 0, 0)}} {
		if shape.Check(l) != api.OK {
			t.Errorf("Check(%v)", l)
		}
	}
	for _, l := range [][]api.Span{{span(0, 3, 1)}, {span(-257, 0, 0)}, {span(256, 0, 0)}, {span(0, -257, 0)}, {span(0, 0, 256)}, {span(0, 0, 2), span(0, 3, 4)}, {span(0, 0, 2), span(0, 2, 4)}, {span(0, 4, 4), span(0, 0, 0)}, {span(1, 0, 0), span(0, 0, 0)}, {span(0, 0, 0), span(0, 0, 0)}, {span(0, math.MinInt, math.MaxInt)}, {span(0, 0, 0), span(0, 5, 4)}} {
		if shape.Check(l) != api.ErrSpans {
			t.Errorf("Check(%v)", l)
		}
	}
}

// line is a line by the chapter's words.
func line(a, b api.Point) []api.Point {
	abs := func(n int) int { return max(n, -n) }
	sign := func(n int) int {
		if n < 0 {
			return -1
		}
		return 1
	}
	dx, dy := abs(b.X-a.X), abs(b.Y-a.Y)
	n, m := max(dx, dy), min(dx, dy)
	if n == 0 {
		return []api.Point{a}
	}
	var out []api.Point
	for i := 0; i <= n; i++ {
		k := (2*i*m + n) / (2 * n)
		if dx >= dy {
			out = append(out, at(a.X+sign(b.X-a.X)*i, a.Y+sign(b.Y-a.Y)*k))
		} else {
			out = append(out, at(a.X+sign(b.X-a.X)*k, a.Y+sign(b.Y-a.Y)*i))
		}
	}
	return out
}

// P6.2, P6.7
func TestLine(t *testing.T) {
	for _, x := range []struct {
		a, b api.Point
		want []api.Point
	}{
		{at(0, 0), at(4, 2), []api.Point{at(0, 0), at(1, 1), at(2, 1), at(3, 2), at(4, 2)}},
		{at(0, 0), at(0, -2), []api.Point{at(0, 0), at(0, -1), at(0, -2)}},
		{at(4, 2), at(0, 0), []api.Point{at(4, 2), at(3, 1), at(2, 1), at(1, 0), at(0, 0)}},
		{at(5, 5), at(5, 5), []api.Point{at(5, 5)}},
	} {
		if got, e := shape.Line(x.a, x.b); e != api.OK || !slices.Equal(got, x.want) {
			t.Errorf("Line(%v, %v) = %v %d", x.a, x.b, got, e)
		}
	}
	r := rand.New(rand.NewSource(1))
	for range 500 {
		a, b := at(r.Intn(192)-64, r.Intn(192)-64), at(r.Intn(192)-64, r.Intn(192)-64)
		if r.Intn(2) == 0 {
			b = at(min(127, a.X+r.Intn(5)), max(-64, a.Y-r.Intn(5)))
		}
		got, e := shape.Line(a, b)
		if e != api.OK || !slices.Equal(got, line(a, b)) {
			t.Fatalf("Line(%v, %v) = %v %d", a, b, got, e)
		}
		for i := 1; i < len(got); i++ {
			if dx, dy := got[i].X-got[i-1].X, got[i].Y-got[i-1].Y; dx < -1 || dx > 1 || dy < -1 || dy > 1 {
				t.Fatalf("Line(%v, %v) has a gap", a, b)
			}
		}
	}
	if got, e := shape.Line(at(-64, -64), at(127, 127)); e != api.OK || len(got) != 192 {
		t.Errorf("the longest line: %d", e)
	}
	for _, p := range undrawn {
		for _, l := range [][2]api.Point{{p, at(0, 0)}, {at(0, 0), p}} {
			if got, e := shape.Line(l[0], l[1]); e != api.ErrArg || got != nil {
				t.Errorf("Line(%v): %d", l, e)
			}
		}
	}
}

// P6.3
func TestDiscSquare(t *testing.T) {
	if got, e := shape.Disc(at(0, 0), 1); e != api.OK || !slices.Equal(got, []api.Span{span(-1, 0, 0), span(0, -1, 1), span(1, 0, 0)}) {
		t.Errorf("Disc: %v %d", got, e)
	}
	for size := 0; size <= 15; size++ {
		for _, c := range []api.Point{at(0, 0), at(127, -64), at(-64, 127), at(20, 30)} {
			disc, square := map[api.Point]bool{}, map[api.Point]bool{}
			for x := -size; x <= size; x++ {
				for y := -size; y <= size; y++ {
					square[at(c.X+x, c.Y+y)] = true
					if x*x+y*y <= size*size {
						disc[at(c.X+x, c.Y+y)] = true
					}
				}
			}
			if got, e := shape.Disc(c, size); e != api.OK || !same(has(t, got), disc) {
				t.Errorf("Disc(%v, %d): %d", c, size, e)
			}
			if got, e := shape.Square(c, size); e != api.OK || !same(has(t, got), square) {
				t.Errorf("Square(%v, %d): %d", c, size, e)
			}
		}
	}
	for _, size := range []int{-1, 16, math.MaxInt, math.MinInt} {
		_, e := shape.Disc(at(0, 0), size)
		_, f := shape.Square(at(0, 0), size)
		if e != api.ErrArg || f != api.ErrArg {
			t.Errorf("size %d: %d %d", size, e, f)
		}
	}
	for _, p := range undrawn {
		_, e := shape.Disc(p, 1)
		_, f := shape.Square(p, 1)
		if e != api.ErrArg || f != api.ErrArg {
			t.Errorf("about %v: %d %d", p, e, f)
		}
	}
}

// P6.3
func TestRect(t *testing.T) {
	want := []api.Span{span(-2, 1, 4), span(-1, 1, 4), span(0, 1, 4)}
	for _, x := range [][2]api.Point{{at(1, -2), at(4, 0)}, {at(4, 0), at(1, -2)}, {at(1, 0), at(4, -2)}, {at(4, -2), at(1, 0)}} {
		if got, e := shape.Rect(x[0], x[1]); e != api.OK || !slices.Equal(got, want) {
			t.Errorf("Rect(%v): %v %d", x, got, e)
		}
	}
	if got, e := shape.Rect(at(3, 3), at(3, 3)); e != api.OK || !slices.Equal(got, []api.Span{span(3, 3, 3)}) {
		t.Errorf("Rect of a place: %v %d", got, e)
	}
	if got, e := shape.Rect(at(-64, -64), at(127, 127)); e != api.OK || shape.Count(got) != 192*192 {
		t.Errorf("the greatest Rect: %d", e)
	}
	for _, p := range undrawn {
		_, e := shape.Rect(p, at(0, 0))
		got, f := shape.Rect(at(0, 0), p)
		if e != api.ErrArg || f != api.ErrArg || got != nil {
			t.Errorf("Rect of %v: %d %d", p, e, f)
		}
	}
}

// P6.4, P6.7
func TestSweep(t *testing.T) {
	got, e := shape.Sweep([]api.Point{at(0, 0), at(3, 0)}, 1, false)
	if e != api.OK || !slices.Equal(got, []api.Span{span(-1, -1, 4), span(0, -1, 4), span(1, -1, 4)}) || shape.Count(got) != 18 {
		t.Errorf("Sweep: %v %d", got, e)
	}
	r := rand.New(rand.NewSource(2))
	for range 100 {
		var l []api.Point
		want := map[api.Point]bool{}
		size, round := r.Intn(5), r.Intn(2) == 0
		for range r.Intn(6) {
			p := at(r.Intn(30), r.Intn(30))
			l = append(l, p)
			one, _ := shape.Square(p, size)
			if round {
				one, _ = shape.Disc(p, size)
			}
			for p := range has(t, one) {
				want[p] = true
			}
		}
		got, e := shape.Sweep(l, size, round)
		if e != api.OK || !same(has(t, got), want) {
			t.Fatalf("Sweep(%v, %d, %t): %d", l, size, round, e)
		}
		if len(l) == 1 && shape.Count(got) != len(want) {
			t.Errorf("a sweep of one place")
		}
	}
	for _, size := range []int{-1, 16} {
		if got, e := shape.Sweep(nil, size, true); e != api.ErrArg || got != nil {
			t.Errorf("Sweep of none by %d: %d", size, e)
		}
	}
	for _, p := range undrawn {
		if got, e := shape.Sweep([]api.Point{at(0, 0), p}, 1, true); e != api.ErrArg || got != nil {
			t.Errorf("Sweep of %v: %d", p, e)
		}
	}
}

func random(r *rand.Rand) []api.Span {
	var l []api.Span
	for y := range 5 {
		for x := r.Intn(3); x < 12; x += 2 + r.Intn(3) {
			to := x + r.Intn(4)
			if r.Intn(3) > 0 {
				l = append(l, span(y, x, to))
			}
			x = to
		}
	}
	return l
}

// P6.5, P6.7
func TestUnion(t *testing.T) {
	if got, e := shape.Union([]api.Span{span(0, 0, 2)}, []api.Span{span(0, 3, 5)}); e != api.OK || !slices.Equal(got, []api.Span{span(0, 0, 5)}) {
		t.Errorf("Union: %v %d", got, e)
	}
	if got, e := shape.Union(); e != api.OK || len(got) != 0 {
		t.Errorf("Union of none: %v %d", got, e)
	}
	r := rand.New(rand.NewSource(3))
	for range 300 {
		a, b, c := random(r), random(r), random(r)
		want := map[api.Point]bool{}
		for _, l := range [][]api.Span{a, b, c} {
			for p := range has(t, l) {
				want[p] = true
			}
		}
		keep := slices.Clone(a)
		got, e := shape.Union(a, b, c)
		if e != api.OK || !same(has(t, got), want) || !slices.Equal(a, keep) {
			t.Fatalf("Union(%v, %v, %v) = %v %d", a, b, c, got, e)
		}
		if again, _ := shape.Union(c, a, b, c); !slices.Equal(got, again) {
			t.Errorf("Union hangs on the order")
		}
	}
	if got, e := shape.Union(nil, []api.Span{span(0, 3, 1)}); e != api.ErrSpans || got != nil {
		t.Errorf("Union of no row: %d", e)
	}
	one := []api.Span{span(0, 0, 0)}
	if got, _ := shape.Union(one); len(got) == 1 {
		got[0].To = 9
	}
	if one[0].To != 0 {
		t.Errorf("Union shares memory")
	}
}

// P6.5, P6.7
func TestClip(t *testing.T) {
	if got, e := shape.Clip([]api.Span{span(0, 0, 5)}, api.Box{X: 1, X2: 4}); e != api.OK || !slices.Equal(got, []api.Span{span(0, 1, 4)}) {
		t.Errorf("Clip: %v %d", got, e)
	}
	r := rand.New(rand.NewSource(4))
	for range 300 {
		l := random(r)
		box := api.Box{X: r.Intn(10) - 2, Y: r.Intn(5), X2: r.Intn(14), Y2: r.Intn(6)}
		want := map[api.Point]bool{}
		for p := range has(t, l) {
			if p.X >= box.X && p.X <= box.X2 && p.Y >= box.Y && p.Y <= box.Y2 {
				want[p] = true
			}
		}
		keep := slices.Clone(l)
		got, e := shape.Clip(l, box)
		if e != api.OK || !same(has(t, got), want) || !slices.Equal(l, keep) {
			t.Fatalf("Clip(%v, %v) = %v %d", l, box, got, e)
		}
		if again, _ := shape.Clip(got, box); !slices.Equal(got, again) {
			t.Errorf("clipped twice it is another one")
		}
	}
	wide := []api.Span{span(-256, -256, 255), span(255, -256, 255)}
	if got, _ := shape.Clip(wide, api.Box{X: math.MinInt, Y: math.MinInt, X2: math.MaxInt, Y2: math.MaxInt}); !slices.Equal(got, wide) {
		t.Errorf("Clip by all: %v", got)
	}
	if got, _ := shape.Clip(wide, api.Box{X: math.MaxInt, Y: math.MinInt, X2: math.MinInt, Y2: math.MaxInt}); len(got) != 0 {
		t.Errorf("Clip by none: %v", got)
	}
	if got, e := shape.Clip([]api.Span{span(0, 3, 1)}, api.Box{}); e != api.ErrSpans || got != nil {
		t.Errorf("Clip of no row: %d", e)
	}
}

// P6.6
func TestHasCountAll(t *testing.T) {
	r := rand.New(rand.NewSource(5))
	for range 100 {
		l := random(r)
		want := has(t, l)
		if shape.Count(l) != len(want) {
			t.Errorf("Count(%v) = %d", l, shape.Count(l))
		}
		for y := -1; y < 7; y++ {
			for x := -1; x < 20; x++ {
				if shape.Has(l, at(x, y)) != want[at(x, y)] {
					t.Errorf("Has(%v, %d %d)", l, x, y)
				}
			}
		}
		places := slices.Collect(shape.All(l))
		if len(places) != len(want) || !slices.IsSortedFunc(places, func(a, b api.Point) int { return (a.Y-b.Y)*1000 + a.X - b.X }) {
			t.Errorf("All(%v) = %v", l, places)
		}
		for _, p := range places {
			if !want[p] {
				t.Errorf("All(%v) tells %v", l, p)
			}
		}
	}
	none := []api.Span{span(0, 0, 2), span(0, 1, 3)}
	if shape.Has(none, at(0, 0)) || shape.Count(none) != 0 || len(slices.Collect(shape.All(none))) != 0 || shape.Has(nil, at(0, 0)) {
		t.Errorf("no row of spans has some")
	}
	for p := range shape.All([]api.Span{span(0, 0, 9), span(1, 0, 9)}) {
		if p == at(4, 0) {
			break
		}
	}
	l := []api.Span{span(0, 0, 1)}
	all := shape.All(l)
	l[0].To = 9
	if got := slices.Collect(all); !slices.Equal(got, []api.Point{at(0, 0), at(1, 0)}) || !slices.Equal(slices.Collect(all), got) {
		t.Errorf("All keeps what it was handed: %v", got)
	}
}
