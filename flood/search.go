package flood

import (
	"iter"

	"gesso/api"
	"gesso/canvas"
)

// search goes over a canvas, from neighbour to neighbour.
type search struct {
	*canvas.Canvas
	met   [api.Edges * api.Edges]int // by each place how many steps it took, and 1; 0: not met
	waits []api.Point                // what was met, and not gone on from
}

func searchOf(c *canvas.Canvas) *search { return &search{Canvas: c} }

// meet says that a pixel is met, behind so many steps.
func (s *search) meet(p api.Point, steps int) {
	s.met[p.Y*api.Edges+p.X] = steps + 1
}

// has tells whether a pixel was met.
func (s *search) has(p api.Point) bool { return s.met[p.Y*api.Edges+p.X] > 0 }

// steps is how many steps it took to a pixel that was met.
func (s *search) steps(p api.Point) int { return s.met[p.Y*api.Edges+p.X] - 1 }

// neighbours tells those of a pixel's neighbours that are on the canvas.
func (s *search) neighbours(p api.Point) iter.Seq[api.Point] {
	beside := [4]api.Point{{X: p.X - 1, Y: p.Y}, {X: p.X + 1, Y: p.Y}, {X: p.X, Y: p.Y - 1}, {X: p.X, Y: p.Y + 1}}
	return func(yield func(api.Point) bool) {
		for _, n := range beside {
			if _, on := s.At(n.X, n.Y); on && !yield(n) {
				return
			}
		}
	}
}

// goOn meets the neighbours of a pixel that are near, and were not met.
func (s *search) goOn(p api.Point, near func(api.Point) bool) {
	for n := range s.neighbours(p) {
		if !s.has(n) && near(n) {
			s.meet(n, s.steps(p)+1)
			s.waits = append(s.waits, n)
		}
	}
}

// spread meets all that one comes to from a pixel; what waits longest is taken first, so that steps are least.
func (s *search) spread(from api.Point, near func(api.Point) bool) {
	next := s.goOn
	s.meet(from, 0)
	s.waits = append(s.waits, from)
taking:
	if len(s.waits) > 0 {
		p := s.waits[0]
		s.waits = s.waits[1:len(s.waits):cap(s.waits)]
		next(p, near)
		goto taking
	}
}

// atRim tells whether a pixel that was met has fewer than four neighbours that were.
func (s *search) atRim(p api.Point) bool {
	inside := 0
asking:
	for n := range s.neighbours(p) {
		if !s.has(n) {
			break asking
		}
		inside++
	}
	return inside < 4
}

// gathered is what is taken of a canvas's pixels, row by row, from the left.
func gathered[T any](s *search, take func(out []T, p api.Point) []T) []T {
	var out []T
	wide, high := s.Size()
	for y := range high {
		for x := range wide {
			out = take(out, api.Point{X: x, Y: y})
		}
	}
	return out
}
