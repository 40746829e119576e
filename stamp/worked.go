package stamp

import (
	"iter"

	"gesso/api"
	"gesso/canvas"
	"gesso/pixel"
)

// worked is a stamp that is worked on.
type worked struct{ api.Stamp }

// workedOf is a stamp that may be.
func workedOf(s api.Stamp) worked {
	if e := Check(s); e != api.OK {
		panic(wrong{e})
	}
	return worked{s}
}

// row is a row of its pixels.
func (w worked) row(y int) []api.Color {
	from, to := y*w.Wide, (y+1)*w.Wide
	return w.Pixels[from:to:to]
}

// pixels tells its pixels, row by row, each with its place.
func (w worked) pixels() iter.Seq2[api.Point, api.Color] {
	return func(yield func(api.Point, api.Color) bool) {
		for y := range w.High {
			for x, c := range w.row(y) {
				if !yield(api.Point{X: x, Y: y}, c) {
					return
				}
			}
		}
	}
}

// moved is a row of all that is told, each at the place to which it comes.
func moved[T any](many int, told iter.Seq2[api.Point, T], to func(api.Point) int) []T {
	out := make([]T, many)
	for p, x := range told {
		out[to(p)] = x
	}
	return out
}

// turned is the stamp turned by one quarter.
func (w worked) turned() worked {
	pixels := moved(len(w.Pixels), w.pixels(), func(p api.Point) int { return p.X*w.High + w.High - 1 - p.Y })
	return worked{api.Stamp{Wide: w.High, High: w.Wide, Pixels: pixels}}
}

// flipped is the stamp flipped from left to right.
func (w worked) flipped() worked {
	pixels := moved(len(w.Pixels), w.pixels(), func(p api.Point) int { return p.Y*w.Wide + w.Wide - 1 - p.X })
	return worked{api.Stamp{Wide: w.Wide, High: w.High, Pixels: pixels}}
}

// copied is the stamp in new memory.
func (w worked) copied() api.Stamp {
	out := api.Stamp{Wide: w.Wide, High: w.High, Pixels: make([]api.Color, len(w.Pixels))}
	copy(out.Pixels, w.Pixels)
	return out
}

// over is what a canvas's pixels come to, if the stamp is laid at a place.
func (w worked) over(c *canvas.Canvas, at api.Point) []api.Dot {
	var dots []api.Dot
	_, high := c.Size()
laying:
	for p, color := range w.pixels() {
		x, y := at.X+p.X, at.Y+p.Y
		// All rows behind this one are below the canvas, too.
		if y >= high {
			break laying
		}
		if under, on := c.At(x, y); on {
			dots = append(dots, api.Dot{X: x, Y: y, Color: pixel.Over(under, color)})
		}
	}
	return dots
}
