package codec

import (
	"gesso/api"
	"gesso/ident"
	"gesso/octet"
	"gesso/op"
	"gesso/vector"
)

// mostBytes is more than a row of operations can have: no more is looked at, whatever stands behind.
const mostBytes = 1 << 15

// taker takes parts from bytes, one by one.
type taker struct {
	*octet.Reader
	op api.Op
}

// taken is what is taken from the front of bytes, and how many these are.
func taken[T any](b []byte, take func(*taker) T) (out T, n int, e api.Errno) {
	defer func() { e = told(recover()) }()
	end := min(len(b), mostBytes)
	r, e := octet.Open(b[:end:end])
	need(e == api.OK, e)
	t := &taker{Reader: r}
	x := take(t)
	return x, end - t.Left(), api.OK
}

// number takes a number.
func (t *taker) number(width int) uint64 {
	n := t.Number(width)
	need(t.Err() == api.OK, t.Err())
	return n
}

// id takes an id.
func (t *taker) id() api.Id {
	i := api.Id{Time: t.number(timeWidth), Site: int(t.number(byteWidth)), Seq: t.number(timeWidth)}
	need(ident.Check(i) == api.OK, api.ErrCode)
	return i
}

// vector takes a vector.
func (t *taker) vector() api.Vector {
	var v api.Vector
	for site := 1; site <= api.MaxSites; site++ {
		v[site] = t.number(timeWidth)
	}
	need(vector.Check(v) == api.OK, api.ErrCode)
	return v
}

// operation takes an operation.
func (t *taker) operation() api.Op {
	kind := int(t.number(byteWidth))
	need(kind >= api.OpBrush && kind <= api.OpRedo, api.ErrCode)
	t.op = api.Op{Kind: kind}
	t.op.Id = t.id()
	for _, take := range takes()[kind] {
		take(t)
	}
	need(op.Check(t.op) == api.OK, api.ErrCode)
	return t.op
}

// place takes one of a place's numbers.
func (t *taker) place() int { return int(t.number(byteWidth)) + api.MinAt }

func (t *taker) x()  { t.op.X = t.place() }
func (t *taker) y()  { t.op.Y = t.place() }
func (t *taker) x2() { t.op.X2 = t.place() }
func (t *taker) y2() { t.op.Y2 = t.place() }

func (t *taker) size() { t.op.Size = int(t.number(sizeWidth)) }

func (t *taker) color() { t.op.Color = t.pixel() }

// pixel takes a colour.
func (t *taker) pixel() api.Color {
	return api.Color{R: byte(t.number(byteWidth)), G: byte(t.number(byteWidth)), B: byte(t.number(byteWidth)), A: byte(t.number(byteWidth))}
}

// side takes how many pixels a stamp's side has.
func (t *taker) side() int {
	n := int(t.number(byteWidth))
	need(n >= 1 && n <= api.MaxStamp, api.ErrCode)
	return n
}

func (t *taker) stamp() {
	s := api.Stamp{Wide: t.side()}
	s.High = t.side()
	for range s.Wide * s.High {
		s.Pixels = append(s.Pixels, t.pixel())
	}
	t.op.Stamp = s
}

func (t *taker) target() { t.op.Target = t.id() }

// takes is by each Kind how what it uses is taken.
func takes() [api.OpRedo + 1][]func(*taker) {
	x, y, x2, y2, size, color := (*taker).x, (*taker).y, (*taker).x2, (*taker).y2, (*taker).size, (*taker).color
	return [...][]func(*taker){
		api.OpBrush:  {x, y, x2, y2, size, color},
		api.OpSquare: {x, y, x2, y2, size, color},
		api.OpRect:   {x, y, x2, y2, color},
		api.OpWash:   {x, y, x2, y2, color},
		api.OpFill:   {x, y, size, color},
		api.OpStamp:  {x, y, (*taker).stamp},
		api.OpUndo:   {(*taker).target},
		api.OpRedo:   {(*taker).target},
	}
}
