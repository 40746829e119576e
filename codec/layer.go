package codec

import (
	"slices"

	"gesso/api"
	"gesso/octet"
)

// The widths of numbers.
const (
	byteWidth = 1
	sizeWidth = 2
	timeWidth = 8
)

// layer lays what may be as bytes, part by part.
type layer struct {
	api.Op
	bytes []byte
}

// number lays a number.
func (l *layer) number(width int, n uint64) {
	b, _ := octet.Put(nil, width, n)
	l.bytes = append(l.bytes, b...)
}

// laid is what was laid, without the room behind it.
func (l *layer) laid() []byte { return slices.Clone(l.bytes) }

// id lays an id.
func (l *layer) id(i api.Id) {
	l.number(timeWidth, i.Time)
	l.number(byteWidth, uint64(i.Site))
	l.number(timeWidth, i.Seq)
}

// place lays one of a place's numbers, which are less than 256 above the least.
func (l *layer) place(n int) { l.number(byteWidth, uint64(n-api.MinAt)) }

func (l *layer) x()  { l.place(l.X) }
func (l *layer) y()  { l.place(l.Y) }
func (l *layer) x2() { l.place(l.X2) }
func (l *layer) y2() { l.place(l.Y2) }

func (l *layer) size() { l.number(sizeWidth, uint64(l.Size)) }

func (l *layer) color() { l.colors(l.Color) }

// colors lays colours, one behind the other.
func (l *layer) colors(colors ...api.Color) {
	for _, c := range colors {
		l.bytes = append(l.bytes, c.R, c.G, c.B, c.A)
	}
}

func (l *layer) stamp() {
	l.number(byteWidth, uint64(l.Stamp.Wide))
	l.number(byteWidth, uint64(l.Stamp.High))
	l.colors(l.Stamp.Pixels...)
}

func (l *layer) target() { l.id(l.Target) }

// lays is by each Kind how what it uses is laid.
func lays() [api.OpRedo + 1][]func(*layer) {
	x, y, x2, y2, size, color := (*layer).x, (*layer).y, (*layer).x2, (*layer).y2, (*layer).size, (*layer).color
	return [...][]func(*layer){
		api.OpBrush:  {x, y, x2, y2, size, color},
		api.OpSquare: {x, y, x2, y2, size, color},
		api.OpRect:   {x, y, x2, y2, color},
		api.OpWash:   {x, y, x2, y2, color},
		api.OpFill:   {x, y, size, color},
		api.OpStamp:  {x, y, (*layer).stamp},
		api.OpUndo:   {(*layer).target},
		api.OpRedo:   {(*layer).target},
	}
}
