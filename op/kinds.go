package op

import (
	"slices"

	"gesso/api"
	"gesso/ident"
	"gesso/stamp"
)

// The fields of operations that not all kinds use, a bit each.
const (
	useX = 1 << iota
	useY
	useX2
	useY2
	useSize
	useColor
	useStamp
	useTarget

	useAt   = useX | useY
	useBoth = useAt | useX2 | useY2
)

// kind is which fields the operations of a kind use, the greatest Size, what they paint, and reach.
type kind struct {
	uses  int
	most  int
	paint func(p *painter, o api.Op)
	reach func(o api.Op) []api.Span
}

// kinds is all kinds, by their numbers.
func kinds() [api.OpRedo + 1]kind {
	return [...]kind{
		api.OpBrush:  {useBoth | useSize | useColor, api.MaxSize, paintBrush, reachBrush},
		api.OpSquare: {useBoth | useSize | useColor, api.MaxSize, paintBrush, reachBrush},
		api.OpRect:   {useBoth | useColor, 0, paintRect, reachRect},
		api.OpWash:   {useBoth | useColor, 0, paintWash, reachRect},
		api.OpFill:   {useAt | useSize | useColor, api.MaxFar, paintFill, reachFill},
		api.OpStamp:  {useAt | useStamp, 0, paintStamp, reachStamp},
		api.OpUndo:   {uses: useTarget},
		api.OpRedo:   {uses: useTarget},
	}
}

// kindOf is a kind, by its number; of none an empty one.
func kindOf(number int) (kind, bool) {
	if number < api.OpBrush || number > api.OpRedo {
		return kind{}, false
	}
	return kinds()[number], true
}

// field is a field's name; whether it is in order, of a kind that uses it; whether it is zero; and how it comes to another operation.
type field struct {
	name  string
	fits  func(k kind, o *api.Op) bool
	blank func(o *api.Op) bool
	carry func(to, from *api.Op)
}

// drawn tells whether a number may be a place's.
func drawn(n int) bool { return n >= api.MinAt && n <= api.MaxAt }

// copied is a stamp in new memory.
func copied(s api.Stamp) api.Stamp {
	s.Pixels = slices.Clone(s.Pixels)
	return s
}

// fields is all fields, by the places of their bits.
func fields() [8]field {
	return [...]field{
		{"X", func(_ kind, o *api.Op) bool { return drawn(o.X) }, func(o *api.Op) bool { return o.X == 0 }, func(to, from *api.Op) { to.X = from.X }},
		{"Y", func(_ kind, o *api.Op) bool { return drawn(o.Y) }, func(o *api.Op) bool { return o.Y == 0 }, func(to, from *api.Op) { to.Y = from.Y }},
		{"X2", func(_ kind, o *api.Op) bool { return drawn(o.X2) }, func(o *api.Op) bool { return o.X2 == 0 }, func(to, from *api.Op) { to.X2 = from.X2 }},
		{"Y2", func(_ kind, o *api.Op) bool { return drawn(o.Y2) }, func(o *api.Op) bool { return o.Y2 == 0 }, func(to, from *api.Op) { to.Y2 = from.Y2 }},
		{"Size", func(k kind, o *api.Op) bool { return o.Size >= 0 && o.Size <= k.most }, func(o *api.Op) bool { return o.Size == 0 }, func(to, from *api.Op) { to.Size = from.Size }},
		{"Color", func(kind, *api.Op) bool { return true }, func(o *api.Op) bool { return o.Color == (api.Color{}) }, func(to, from *api.Op) { to.Color = from.Color }},
		{"Stamp", func(_ kind, o *api.Op) bool { return stamp.Check(o.Stamp) == api.OK }, func(o *api.Op) bool { return stamp.Same(o.Stamp, api.Stamp{}) }, func(to, from *api.Op) { to.Stamp = copied(from.Stamp) }},
		{"Target", func(_ kind, o *api.Op) bool { return ident.Check(o.Target) == api.OK && ident.Less(o.Target, o.Id) }, func(o *api.Op) bool { return o.Target == (api.Id{}) }, func(to, from *api.Op) { to.Target = from.Target }},
	}
}
