package store

import (
	"iter"
	"slices"

	"gesso/api"
	"gesso/canvas"
	"gesso/oplog"
	"gesso/undo"
	"gesso/vector"
)

// wrong leaves by a panic: why something can't be.
type wrong struct{ errno api.Errno }

// told is the error that a recovered panic stands for.
func told(left any) api.Errno {
	if w, ok := left.(wrong); ok {
		return w.errno
	}
	return api.OK
}

// need leaves with an error, if something does not hold.
func need(holds bool, e api.Errno) {
	if !holds {
		panic(wrong{e})
	}
}

// must is what came without an error.
func must[T any](x T, e api.Errno) T {
	need(e == api.OK, e)
	return x
}

// keeper goes on with what is kept, fact by fact.
type keeper struct{ api.Kept }

// keeperOf is a copy of what may be kept.
func keeperOf(k api.Kept) *keeper {
	k.Canvas.Tiles = slices.Clone(k.Canvas.Tiles)
	k.Log, _ = oplog.Inserts(k.Log)
	return &keeper{k}
}

// facts tells facts, one behind the other.
func facts(l []api.Fact) iter.Seq[api.Fact] {
	return func(yield func(api.Fact) bool) {
		for _, f := range l {
			if !yield(f) {
				return
			}
		}
	}
}

// applyAll applies facts up to the first one that has an error.
func (p *keeper) applyAll(l []api.Fact) (api.Kept, int, api.Errno) {
	goOn := p.apply
	applied, failed := 0, api.OK
applying:
	for f := range facts(l) {
		if failed = goOn(f); failed != api.OK {
			break applying
		}
		applied++
	}
	return p.Kept, applied, failed
}

// apply applies a fact, if it can be applied, and tells the error.
func (p *keeper) apply(f api.Fact) (e api.Errno) {
	defer func() { e = told(recover()) }()
	need(isFact(f), api.ErrArg)
	kinds()[f.Kind].apply(p, f)
	return api.OK
}

// site registers a site.
func (p *keeper) site(f api.Fact) {
	need(!p.Sites[f.Site], api.ErrThere)
	p.Sites[f.Site] = true
}

// op takes an operation.
func (p *keeper) op(f api.Fact) {
	need(p.Sites[f.Op.Id.Site], api.ErrNone)
	l, _, e := oplog.Insert(p.Log, f.Op)
	need(e == api.OK, e)
	p.Log = l
}

// fold folds all up to a time.
func (p *keeper) fold(f api.Fact) {
	need(f.Time > p.Log.Folded, api.ErrArg)
	need(vector.Covers(oplog.Vector(p.Log), f.By), api.ErrGap)
	base, l, e := undo.Fold(must(canvas.Of(p.Canvas)), p.Log, f.Time)
	need(e == api.OK, e)
	p.Canvas, p.Log, p.By = base.Show(), l, f.By
}
