package draw

import (
	"iter"

	"gesso/api"
	"gesso/canvas"
	"gesso/shape"
)

// easel is what is drawn on.
type easel struct{ *canvas.Canvas }

// easelOf holds a canvas, which must be there.
func easelOf(c *canvas.Canvas) easel {
	if c == nil {
		panic(wrong{api.ErrNil})
	}
	return easel{c}
}

// pixels tells the pixels of the canvas that a row of spans has, each with its colour.
func (e easel) pixels(l []api.Span) iter.Seq2[api.Point, api.Color] {
	wide, high := e.Size()
	rows := must(shape.Clip(l, api.Box{X2: wide - 1, Y2: api.MaxReach}))
	return func(yield func(api.Point, api.Color) bool) {
	telling:
		for p := range shape.All(rows) {
			// Spans stand in order of Y: all further ones are below the canvas.
			if p.Y >= high {
				break telling
			}
			if c, on := e.At(p.X, p.Y); on && !yield(p, c) {
				return
			}
		}
	}
}

// each is what all that is told comes to, by its place.
func each[K comparable, V any](told iter.Seq2[K, V], come func(V) V) map[K]V {
	out := map[K]V{}
	for k, v := range told {
		out[k] = come(v)
	}
	return out
}

// drawn is the canvas on which each pixel of a row of spans is what it comes to.
func (e easel) drawn(l []api.Span, come func(api.Color) api.Color) *canvas.Canvas {
	was := each(e.pixels(l), come)
	dots := make([]api.Dot, 0, len(was))
	for p, c := range was {
		dots = append(dots, api.Dot{X: p.X, Y: p.Y, Color: c})
	}
	draw := e.With
	return draw(dots...)
}
