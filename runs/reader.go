package runs

import (
	"iter"

	"gesso/api"
	"gesso/canvas"
)

// unread leaves by a panic: bytes are not what they have to be.
type unread struct{}

// reader reads a canvas from bytes, which it has read up to a place.
type reader struct {
	api.Canvas
	bytes []byte
	at    int
}

// take reads the next n bytes.
func (r *reader) take(n int) []byte {
	from, to := r.at, r.at+n
	if to > len(r.bytes) {
		panic(unread{})
	}
	r.at = to
	return r.bytes[from:to:to]
}

// runs tells the runs that stand next, without an end.
func (r *reader) runs() iter.Seq[run] {
	return func(yield func(run) bool) {
		for {
			b := r.take(api.RunBytes)
			if !yield(run{int(b[0]), api.Color{R: b[1], G: b[2], B: b[3], A: b[4]}}) {
				return
			}
		}
	}
}

// tile reads the tile that stands next; runs that could be one are none.
func (r *reader) tile() api.Tile {
	var t api.Tile
	at := 0
filling:
	for x := range r.runs() {
		if x.many < 1 || x.many > api.TileArea-at || at > 0 && t[at-1] == x.color {
			panic(unread{})
		}
		for range x.many {
			t[at] = x.color
			at++
		}
		if at == api.TileArea {
			break filling
		}
	}
	return t
}

// sizes reads how many tiles the canvas is wide, and high.
func (r *reader) sizes() {
	b := r.take(2)
	r.Wide, r.High = int(b[0]), int(b[1])
	if _, e := canvas.New(r.Wide, r.High); e != api.OK {
		panic(unread{})
	}
}

// next reads the canvas's next tile, where the byte 0 stands for one that is known; so that one may not be written out.
func (r *reader) next(known api.Tile) {
	t := known
	if r.at < len(r.bytes) && r.bytes[r.at] == same {
		r.at++
	} else if t = r.tile(); t == known {
		panic(unread{})
	}
	r.Tiles = append(r.Tiles, t)
}

// tiles reads the canvas's tiles.
func (r *reader) tiles(known func(at int) api.Tile) {
	read := r.next
	for at := range r.Wide * r.High {
		read(known(at))
	}
}

// failed tells whether what was recovered is that bytes could not be read.
func failed(left any) bool {
	_, ok := left.(unread)
	return ok
}

// ReadTile reads a tile from bytes that may have more behind.
func ReadTile(b []byte) (t api.Tile, n int, e api.Errno) {
	defer func() {
		if failed(recover()) {
			t, n, e = api.Tile{}, 0, api.ErrRuns
		}
	}()
	r := reader{bytes: b}
	t = r.tile()
	return t, r.at, api.OK
}

// ReadCanvas reads a canvas from bytes that may have more behind.
func ReadCanvas(b []byte) (c api.Canvas, n int, e api.Errno) {
	defer func() {
		if failed(recover()) {
			c, n, e = api.Canvas{}, 0, api.ErrRuns
		}
	}()
	r := reader{bytes: b}
	r.sizes()
	r.tiles(ahead(&r.Canvas))
	return r.Canvas, r.at, api.OK
}

// Apply reads the canvas to which a patch leads.
func Apply(a api.Canvas, patch []byte) (c api.Canvas, n int, e api.Errno) {
	if e := canvas.Check(a); e != api.OK {
		return api.Canvas{}, 0, e
	}
	defer func() {
		if failed(recover()) {
			c, n, e = api.Canvas{}, 0, api.ErrRuns
		}
	}()
	r := reader{bytes: patch}
	r.sizes()
	if r.Wide != a.Wide || r.High != a.High {
		panic(unread{})
	}
	r.tiles(there(&a))
	return r.Canvas, r.at, api.OK
}
