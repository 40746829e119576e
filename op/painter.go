package op

import (
	"iter"

	"gesso/api"
	"gesso/canvas"
	"gesso/draw"
	"gesso/flood"
	"gesso/shape"
	"gesso/stamp"
)

// painter paints operations that may be, one behind the other, on a canvas.
type painter struct{ *canvas.Canvas }

// paint paints one.
func (p *painter) paint(o api.Op) {
	if k, _ := kindOf(o.Kind); k.paint != nil {
		k.paint(p, o)
	}
}

// from is the place at which an operation begins.
func from(o api.Op) api.Point { return api.Point{X: o.X, Y: o.Y} }

// to is the place at which it ends.
func to(o api.Op) api.Point { return api.Point{X: o.X2, Y: o.Y2} }

func paintBrush(p *painter, o api.Op) {
	b := api.Brush{Color: o.Color, Size: o.Size, Round: o.Kind == api.OpBrush}
	p.Canvas = must(draw.Line(p.Canvas, b, from(o), to(o)))
}

func paintRect(p *painter, o api.Op) {
	p.Canvas = must(draw.Rect(p.Canvas, o.Color, from(o), to(o)))
}

func paintWash(p *painter, o api.Op) {
	p.Canvas = must(draw.Veil(p.Canvas, o.Color, from(o), to(o)))
}

// paintFill paints nothing, if there is no pixel to begin from.
func paintFill(p *painter, o api.Op) {
	if _, on := p.At(o.X, o.Y); on {
		p.Canvas = must(flood.Fill(p.Canvas, from(o), o.Size, o.Color))
	}
}

func paintStamp(p *painter, o api.Op) {
	p.Canvas = must(stamp.Lay(p.Canvas, o.Stamp, from(o)))
}

func reachBrush(o api.Op) []api.Span {
	places := must(shape.Line(from(o), to(o)))
	return must(shape.Sweep(places, o.Size, o.Kind == api.OpBrush))
}

func reachRect(o api.Op) []api.Span { return must(shape.Rect(from(o), to(o))) }

// reachFill can't be told: a region hangs on the canvas.
func reachFill(api.Op) []api.Span { panic(wrong{api.ErrArg}) }

func reachStamp(o api.Op) []api.Span {
	var l []api.Span
	for y := range o.Stamp.High {
		l = append(l, api.Span{Y: o.Y + y, From: o.X, To: o.X + o.Stamp.Wide - 1})
	}
	return l
}

// reached tells the spans that an operation reaches; none, if it does not paint.
func reached(o api.Op) iter.Seq[api.Span] {
	return func(yield func(api.Span) bool) {
		k, _ := kindOf(o.Kind)
		if k.reach == nil {
			return
		}
		for _, s := range k.reach(o) {
			if !yield(s) {
				return
			}
		}
	}
}
