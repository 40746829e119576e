package disk

import (
	"iter"
	"slices"

	"gesso/api"
)

// wrong leaves by a panic: why something can't be done.
type wrong struct{ errno api.Errno }

// told is the error that a recovered panic stands for.
func told(left any) api.Errno {
	if w, ok := left.(wrong); ok {
		return w.errno
	}
	return api.OK
}

// need leaves with an error, if something does not hold.
func need(holds bool, e api.Errno) {
	if !holds {
		panic(wrong{e})
	}
}

// all asks of each of a row whether it is in order.
func all[T any](row []T, holds func(T) bool) bool {
	return !slices.ContainsFunc(row, func(x T) bool { return !holds(x) })
}

// isFile tells whether there is such a file.
func isFile(file int) bool { return file >= 0 && file < api.MaxFiles }

// mayWait tells whether an operation may wait.
func mayWait(o api.DiskOp) bool {
	return o.Kind >= api.DkAppend && o.Kind <= api.DkHead && isFile(o.File) && (o.Kind == api.DkAppend) == (len(o.Bytes) > 0)
}

// mayBe tells whether it is an operation: one that may wait, or a sync.
func mayBe(o api.DiskOp) bool {
	return mayWait(o) || o.Kind == api.DkSync && o.File == 0 && len(o.Bytes) == 0
}

// sizes is how many bytes each file has.
type sizes [api.MaxFiles]int

func sizesOf(d api.Disk) *sizes {
	var s sizes
	for file, b := range d.Files {
		s[file] = len(b)
	}
	return &s
}

// after lets an operation be done.
func (s *sizes) after(o api.DiskOp) {
	switch o.Kind {
	case api.DkAppend:
		s[o.File] += len(o.Bytes)
	case api.DkEmpty:
		s[o.File] = 0
	}
}

// behind lets operations be done, one behind the other.
func (s *sizes) behind(l []api.DiskOp) *sizes {
	for _, o := range l {
		s.after(o)
	}
	return s
}

// settled is a file's bytes behind an operation.
func settled(b []byte, o api.DiskOp) []byte {
	switch o.Kind {
	case api.DkAppend:
		return append(b, o.Bytes...)
	case api.DkEmpty:
		return nil
	}
	return b
}

// changing is a disk that changes.
type changing struct{ api.Disk }

// changingOf is a copy of a disk.
func changingOf(d api.Disk) *changing {
	for file, b := range d.Files {
		d.Files[file] = slices.Clone(b[:len(b):len(b)])
	}
	waits := make([]api.DiskOp, 0, len(d.Waits)+1)
	for _, o := range d.Waits {
		waits = append(waits, copied(o))
	}
	d.Waits = waits
	return &changing{d}
}

// copied is an operation in new memory.
func copied(o api.DiskOp) api.DiskOp {
	o.Bytes = slices.Clone(o.Bytes)
	return o
}

// waiting tells what waits, in order.
func (c *changing) waiting() iter.Seq2[int, api.DiskOp] {
	return func(yield func(int, api.DiskOp) bool) {
		for at, o := range c.Waits {
			if !yield(at, o) {
				return
			}
		}
	}
}

// settle does an operation that waits for good.
func (c *changing) settle(o api.DiskOp) {
	c.Files[o.File] = settled(c.Files[o.File], o)
	if o.Kind == api.DkHead {
		c.Head = o.File
	}
}

// tear does no more of an operation than the first bytes of an append.
func (c *changing) tear(o api.DiskOp, torn int) {
	if o.Kind == api.DkAppend {
		end := min(torn, len(o.Bytes))
		o.Bytes = o.Bytes[:end:end]
		c.settle(o)
	}
}

// append lets an append wait.
func (c *changing) append(o api.DiskOp) {
	need(sizesOf(c.Disk).behind(c.Waits)[o.File]+len(o.Bytes) <= api.MaxFile, api.ErrFull)
	c.wait(o)
}

// wait lets an operation wait.
func (c *changing) wait(o api.DiskOp) {
	need(len(c.Waits) < api.MaxWaits, api.ErrFull)
	c.burn()
	c.Waits = append(c.Waits, copied(o))
}

// sync does all that waits for good.
func (c *changing) sync(api.DiskOp) {
	c.burn()
	for _, o := range c.waiting() {
		c.settle(o)
	}
	c.Waits = nil
}

// burn burns the fuse down by an operation, which may let the disk fall instead.
func (c *changing) burn() {
	if c.Fuse == 1 {
		c.Down, c.Fuse = true, 0
		panic(wrong{api.ErrDown})
	}
	c.Fuse = max(c.Fuse-1, 0)
}

// does is by each kind what it does.
func does() [api.DkSync + 1]func(*changing, api.DiskOp) {
	return [...]func(*changing, api.DiskOp){
		api.DkAppend: (*changing).append,
		api.DkEmpty:  (*changing).wait,
		api.DkHead:   (*changing).wait,
		api.DkSync:   (*changing).sync,
	}
}

// try does an operation, if it can be done, and tells the error.
func (c *changing) try(o api.DiskOp) (e api.Errno) {
	defer func() { e = told(recover()) }()
	need(mayBe(o), api.ErrArg)
	need(!c.Down, api.ErrDown)
	does()[o.Kind](c, o)
	return api.OK
}
