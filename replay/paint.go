package replay

import (
	"iter"

	"gesso/api"
	"gesso/canvas"
	"gesso/ident"
	"gesso/marks"
	"gesso/op"
	"gesso/undo"
)

// idOf is an operation's id.
func idOf(o api.Op) api.Id { return o.Id }

// last is the id of the log's last operation; zero, if there is none.
func (v *View) last() api.Id {
	if len(v.Ops) == 0 {
		return api.Id{}
	}
	return v.Ops[len(v.Ops)-1].Id
}

// goOn paints what has come; of each that has, it is handed from which id on something may be another one (a zero one: nothing is). last was the log's last id.
func (v *View) goOn(last api.Id, froms []api.Id) {
	least := api.Id{}
	for _, from := range froms {
		if from != (api.Id{}) && (least == (api.Id{}) || ident.Less(from, least)) {
			least = from
		}
	}
	switch {
	case least == (api.Id{}):
	case ident.Less(last, least):
		v.paint(v.shown, last)
	default:
		start, behind := v.goBack(least)
		v.paint(start, behind)
	}
}

// goBack drops the marks that do not stand ahead of an id, and tells from which canvas to go on, and behind which id.
func (v *View) goBack(from api.Id) (*canvas.Canvas, api.Id) {
	v.back.Add(1)
again:
	last := len(v.marks) - 1
	if last < 0 {
		return v.base, api.Id{}
	}
	if m := v.marks[last]; ident.Less(m.Id, from) {
		return m.Canvas, m.Id
	}
	v.marks = v.marks[:last:last]
	goto again
}

// showing tells the operations that show and stand behind an id.
func (v *View) showing(behind api.Id) iter.Seq[api.Op] {
	return func(yield func(api.Op) bool) {
		for _, o := range undo.Showing(v.log) {
			if ident.Less(behind, o.Id) && !yield(o) {
				return
			}
		}
	}
}

// paint paints what shows behind an id on what is shown up to that, and puts marks on the way.
func (v *View) paint(start *canvas.Canvas, behind api.Id) {
	put := v.mark
	due := marks.Due(v.marks, each(v.Ops, idOf), api.EveryMark)
	// Ahead of where painting begins nobody knows any more what was shown.
	for len(due) > 0 && ident.Less(due[0], behind) {
		due = due[1:len(due):len(due)]
	}
	v.shown = start
painting:
	for o := range v.showing(behind) {
		for len(due) > 0 && ident.Less(due[0], o.Id) {
			put(due[0])
			due = due[1:len(due):len(due)]
		}
		next, e := op.Apply(v.shown, o)
		if e != api.OK {
			break painting
		}
		v.shown = next
		v.painted.Add(1)
	}
	for _, i := range due {
		put(i)
	}
}

// mark puts a mark of what is shown by now, at an id.
func (v *View) mark(i api.Id) {
	if m, e := marks.Put(v.marks, marks.Mark{Id: i, Canvas: v.shown}); e == api.OK {
		v.marks = m
	}
}
