package canvas

import (
	"slices"

	"gesso/api"
)

// painted is a canvas that is painted: its tiles are those of the one it is made of, till they are copied.
type painted struct {
	sizes
	on     func(x, y int) bool
	tiles  []*api.Tile
	copied map[int]*api.Tile
}

// dot paints a dot, if it is on the canvas.
func (p *painted) dot(d api.Dot) {
	if !p.on(d.X, d.Y) {
		return
	}
	at, pixel := p.place(d.X, d.Y)
	if p.copied[at] == nil {
		t := *p.tiles[at]
		p.copied[at] = &t
	}
	p.copied[at][pixel] = d.Color
}

// done is the canvas that came of it; copies that show what they were made of are left out, so that tiles stay shared.
func (p *painted) done() *Canvas {
	for at, t := range p.copied {
		if *t != *p.tiles[at] {
			p.tiles[at] = t
		}
	}
	return &Canvas{p.sizes, p.tiles}
}

// With is the canvas with these dots.
func (c *Canvas) With(dots ...api.Dot) *Canvas {
	if c == nil {
		return nil
	}
	p := &painted{sizes: c.sizes, on: c.asks(), tiles: slices.Clone(c.tiles), copied: map[int]*api.Tile{}}
	put := p.dot
	for _, d := range dots {
		put(d)
	}
	return p.done()
}

// Set is the canvas with dots of one colour.
func (c *Canvas) Set(color api.Color, points ...api.Point) *Canvas {
	return c.With(each(points, func(p api.Point) api.Dot { return api.Dot{X: p.X, Y: p.Y, Color: color} })...)
}

// Same tells whether both show the same.
func (c *Canvas) Same(d *Canvas) bool {
	if c == nil || d == nil {
		return c == nil && d == nil
	}
	if c.sizes != d.sizes {
		return false
	}
	same := true
comparing:
	for p := range c.points() {
		if c.color(p) != d.color(p) {
			same = false
			break comparing
		}
	}
	return same
}

// Differ is the points at which both have other colours.
func (c *Canvas) Differ(d *Canvas) []api.Point {
	if c == nil || d == nil || c.sizes != d.sizes {
		return nil
	}
	var out []api.Point
	for p := range c.points() {
		if c.color(p) != d.color(p) {
			out = append(out, p)
		}
	}
	return out
}

// Shared is how many places of tiles there are at which both have one tile in memory.
func Shared(a, b *Canvas) int {
	if a == nil || b == nil || a.sizes != b.sizes {
		return 0
	}
	shared := 0
	for at, t := range a.tiles {
		if t == b.tiles[at] {
			shared++
		}
	}
	return shared
}
