package op_test

import (
	"math"
	"math/rand"
	"slices"
	"testing"

	"gesso/api"
	"gesso/canvas"
	"gesso/draw"
	"gesso/flood"
	"gesso/op"
	"gesso/shape"
	"gesso/stamp"
)

var (
	red   = api.Color{R: 255, A: 255}
	glass = api.Color{G: 255, A: 100}
	one   = api.Id{Time: 5, Site: 2, Seq: 3}
)

func at(x, y int) api.Point { return api.Point{X: x, Y: y} }

func picture() api.Stamp {
	return api.Stamp{Wide: 2, High: 3, Pixels: []api.Color{red, glass, {}, red, glass, {B: 9, A: 255}}}
}

// good is one operation of each kind, by its number.
func good() []api.Op {
	return []api.Op{
		{},
		{Id: one, Kind: api.OpBrush, X: 1, Y: 2, X2: 9, Y2: 5, Size: 2, Color: red},
		{Id: one, Kind: api.OpSquare, X: 1, Y: 2, X2: 9, Y2: 5, Size: 1, Color: red},
		{Id: one, Kind: api.OpRect, X: 6, Y: 6, X2: 9, Y2: 4, Color: glass},
		{Id: one, Kind: api.OpWash, X: 6, Y: 6, X2: 9, Y2: 4, Color: glass},
		{Id: one, Kind: api.OpFill, X: 3, Y: 3, Size: 700, Color: red},
		{Id: one, Kind: api.OpStamp, X: 7, Y: 6, Stamp: picture()},
		{Id: one, Kind: api.OpUndo, Target: api.Id{Time: 4, Site: 8, Seq: 9}},
		{Id: one, Kind: api.OpRedo, Target: api.Id{Time: 5, Site: 1, Seq: 9}},
	}
}

func noise(t *testing.T) *canvas.Canvas {
	t.Helper()
	c, e := canvas.New(2, 2)
	if e != api.OK {
		t.Fatal(e)
	}
	r := rand.New(rand.NewSource(1))
	for y := range 16 {
		for x := range 16 {
			c = c.Set(api.Color{R: byte(r.Intn(3) * 50), B: byte(r.Intn(200)), A: 255}, at(x, y))
		}
	}
	return c
}

// P12.1
func TestCheckGood(t *testing.T) {
	for kind, o := range good()[1:] {
		if op.Check(o) != api.OK {
			t.Errorf("Check of kind %d", kind+1)
		}
	}
	for _, kind := range []int{1, 2, 3, 4} {
		o := good()[kind]
		o.X, o.Y, o.X2, o.Y2 = -64, 127, 127, -64
		if op.Check(o) != api.OK {
			t.Errorf("the greatest places of kind %d", kind)
		}
	}
	o := good()[1]
	for _, size := range []int{0, 15} {
		if o.Size = size; op.Check(o) != api.OK {
			t.Errorf("a brush of size %d", size)
		}
	}
	o = good()[5]
	for _, size := range []int{0, 1020} {
		if o.Size = size; op.Check(o) != api.OK {
			t.Errorf("a tolerance of %d", size)
		}
	}
	o = good()[3]
	o.Stamp.Pixels = []api.Color{}
	if op.Check(o) != api.OK {
		t.Errorf("no pixels, but there")
	}
}

// P12.1
func TestCheckBad(t *testing.T) {
	change := map[string]func(o *api.Op){
		"no id":          func(o *api.Op) { o.Id = api.Id{} },
		"no site":        func(o *api.Op) { o.Id.Site = 9 },
		"kind 0":         func(o *api.Op) { o.Kind = 0 },
		"kind 9":         func(o *api.Op) { o.Kind = 9 },
		"kind below":     func(o *api.Op) { o.Kind = -1 },
		"kind far":       func(o *api.Op) { o.Kind = math.MaxInt },
		"X too great":    func(o *api.Op) { o.X = 128 },
		"X too little":   func(o *api.Op) { o.X = -65 },
		"Y too great":    func(o *api.Op) { o.Y = 128 },
		"Y too little":   func(o *api.Op) { o.Y = -65 },
		"X2 too great":   func(o *api.Op) { o.X2 = 128 },
		"X2 too little":  func(o *api.Op) { o.X2 = -65 },
		"Y2 too great":   func(o *api.Op) { o.Y2 = 128 },
		"Y2 too little":  func(o *api.Op) { o.Y2 = math.MinInt },
		"Size too great": func(o *api.Op) { o.Size = 1021 },
		"Size below":     func(o *api.Op) { o.Size = -1 },
		"no stamp":       func(o *api.Op) { o.Stamp.Wide++ },
		"a pixel more":   func(o *api.Op) { o.Stamp.Pixels = append(o.Stamp.Pixels, red) },
		"a target of 0":  func(o *api.Op) { o.Target.Seq = 0; o.Target.Time = 1 },
		"its own target": func(o *api.Op) { o.Target = o.Id },
		"a target ahead": func(o *api.Op) { o.Target = api.Id{Time: 5, Site: 2, Seq: 4} },
	}
	for kind := 1; kind <= 8; kind++ {
		for name, f := range change {
			o := good()[kind]
			f(&o)
			if op.Check(o) != api.ErrOp {
				t.Errorf("kind %d with %s", kind, name)
			}
		}
	}
	for _, kind := range []int{1, 2} {
		o := good()[kind]
		if o.Size = 16; op.Check(o) != api.ErrOp {
			t.Errorf("a brush of size 16")
		}
	}
	set := map[string]func(o *api.Op){
		"X": func(o *api.Op) { o.X = 1 }, "Y": func(o *api.Op) { o.Y = 1 }, "X2": func(o *api.Op) { o.X2 = 1 }, "Y2": func(o *api.Op) { o.Y2 = 1 },
		"Size": func(o *api.Op) { o.Size = 1 }, "Color": func(o *api.Op) { o.Color.A = 1 }, "Stamp": func(o *api.Op) { o.Stamp = picture() }, "Target": func(o *api.Op) { o.Target = api.Id{Time: 1, Site: 1, Seq: 1} },
	}
	uses := [][]string{1: {"X", "Y", "X2", "Y2", "Size", "Color"}, 2: {"X", "Y", "X2", "Y2", "Size", "Color"}, 3: {"X", "Y", "X2", "Y2", "Color"}, 4: {"X", "Y", "X2", "Y2", "Color"}, 5: {"X", "Y", "Size", "Color"}, 6: {"X", "Y", "Stamp"}, 7: {"Target"}, 8: {"Target"}}
	for kind := 1; kind <= 8; kind++ {
		for name, f := range set {
			o := good()[kind]
			f(&o)
			if want := slices.Contains(uses[kind], name); (op.Check(o) == api.OK) != want {
				t.Errorf("kind %d with %s", kind, name)
			}
			// P12.2: Plain leaves out just that.
			if plain := op.Plain(o); op.Check(plain) != api.OK || op.Same(plain, o) != slices.Contains(uses[kind], name) {
				t.Errorf("Plain of kind %d with %s: %v", kind, name, plain)
			}
		}
	}
}

// P12.1
func TestSame(t *testing.T) {
	for kind, o := range good() {
		if !op.Same(o, good()[kind]) {
			t.Errorf("Same of kind %d", kind)
		}
	}
	for name, f := range map[string]func(o *api.Op){
		"Time": func(o *api.Op) { o.Id.Time++ }, "Site": func(o *api.Op) { o.Id.Site++ }, "Seq": func(o *api.Op) { o.Id.Seq++ }, "Kind": func(o *api.Op) { o.Kind++ },
		"X": func(o *api.Op) { o.X++ }, "Y": func(o *api.Op) { o.Y++ }, "X2": func(o *api.Op) { o.X2++ }, "Y2": func(o *api.Op) { o.Y2++ },
		"Size": func(o *api.Op) { o.Size++ }, "Color": func(o *api.Op) { o.Color.B++ }, "Wide": func(o *api.Op) { o.Stamp.Wide++ }, "Pixels": func(o *api.Op) { o.Stamp.Pixels[5].B++ }, "Target": func(o *api.Op) { o.Target.Seq++ },
	} {
		a, b := good()[6], good()[6]
		if f(&b); op.Same(a, b) || op.Same(b, a) {
			t.Errorf("Same with another %s", name)
		}
	}
}

// P12.2
func TestUses(t *testing.T) {
	for kind, want := range []string{"", "X, Y, X2, Y2, Size, Color", "X, Y, X2, Y2, Size, Color", "X, Y, X2, Y2, Color", "X, Y, X2, Y2, Color", "X, Y, Size, Color", "X, Y, Stamp", "Target", "Target", ""} {
		if got := op.Uses(kind); got != want {
			t.Errorf("Uses(%d) = %q", kind, got)
		}
		if op.Paints(kind) != (kind >= 1 && kind <= 6) {
			t.Errorf("Paints(%d)", kind)
		}
	}
	for _, kind := range []int{-1, math.MinInt, math.MaxInt, 10} {
		if op.Uses(kind) != "" || op.Paints(kind) {
			t.Errorf("of kind %d", kind)
		}
		o := good()[1]
		o.Kind, o.Stamp = kind, picture()
		if got := op.Plain(o); !op.Same(got, api.Op{Id: one, Kind: kind}) {
			t.Errorf("Plain of kind %d: %v", kind, got)
		}
	}
	o := good()[6]
	plain := op.Plain(o)
	if !op.Same(plain, o) {
		t.Errorf("Plain of a stamp: %v", plain)
	}
	if plain.Stamp.Pixels[0].R = 7; o.Stamp.Pixels[0] != red {
		t.Errorf("Plain shares memory")
	}
}

// P12.3
func TestApply(t *testing.T) {
	c := noise(t)
	show := c.Show()
	ops := good()
	line, _ := draw.Line(c, api.Brush{Color: red, Size: 2, Round: true}, at(1, 2), at(9, 5))
	square, _ := draw.Line(c, api.Brush{Color: red, Size: 1}, at(1, 2), at(9, 5))
	rect, _ := draw.Rect(c, glass, at(6, 6), at(9, 4))
	wash, _ := draw.Veil(c, glass, at(6, 6), at(9, 4))
	fill, _ := flood.Fill(c, at(3, 3), 700, red)
	laid, _ := stamp.Lay(c, picture(), at(7, 6))
	for kind, want := range []*canvas.Canvas{1: line, 2: square, 3: rect, 4: wash, 5: fill, 6: laid, 7: c, 8: c} {
		if want == nil {
			continue
		}
		if got, e := op.Apply(c, ops[kind]); e != api.OK || !got.Same(want) {
			t.Errorf("Apply of kind %d: %d", kind, e)
		}
	}
	two, _ := op.Apply(rect, ops[5])
	if got, e := op.Apply(c, ops[3], ops[7], ops[5]); e != api.OK || !got.Same(two) {
		t.Errorf("Apply of several: %d", e)
	}
	if got, e := op.Apply(c); e != api.OK || !got.Same(c) {
		t.Errorf("Apply of none: %d", e)
	}
	off := ops[5]
	for _, p := range []api.Point{at(16, 0), at(-1, 3), at(3, 16), at(127, 127)} {
		off.X, off.Y = p.X, p.Y
		if got, e := op.Apply(c, off); e != api.OK || !got.Same(c) {
			t.Errorf("a fill at %v: %d", p, e)
		}
	}
	if !canvas.Alike(c.Show(), show) {
		t.Errorf("the canvas was changed")
	}
	if got, e := op.Apply(c, ops[1], api.Op{}); e != api.ErrOp || got != nil {
		t.Errorf("Apply of none such: %d", e)
	}
	if got, e := op.Apply(nil, api.Op{}); e != api.ErrNil || got != nil {
		t.Errorf("Apply on nil: %d", e)
	}
	small, _ := canvas.New(1, 1)
	corner := api.Op{Id: one, Kind: api.OpRect, X: 6, Y: 6, X2: 9, Y2: 9, Color: red}
	if got, _ := op.Apply(small, corner); len(small.Differ(got)) != 4 {
		t.Errorf("a rectangle at the corner")
	}
}

// P12.4
func TestReach(t *testing.T) {
	ops := good()
	places, _ := shape.Line(at(1, 2), at(9, 5))
	round, _ := shape.Sweep(places, 2, true)
	square, _ := shape.Sweep(places, 1, false)
	rect, _ := shape.Rect(at(6, 6), at(9, 4))
	for kind, want := range [][]api.Span{1: round, 2: square, 3: rect, 4: rect, 6: {{Y: 6, From: 7, To: 8}, {Y: 7, From: 7, To: 8}, {Y: 8, From: 7, To: 8}}, 7: nil, 8: nil} {
		if kind == 0 || kind == 5 {
			continue
		}
		if got, e := op.Reach(ops[kind]); e != api.OK || !slices.Equal(got, want) {
			t.Errorf("Reach of kind %d: %v, not %v, %d", kind, got, want, e)
		}
	}
	if got, e := op.Reach(ops[5]); e != api.ErrArg || got != nil {
		t.Errorf("Reach of a fill: %d", e)
	}
	bad := ops[5]
	if bad.Size = -1; true {
		if got, e := op.Reach(bad); e != api.ErrOp || got != nil {
			t.Errorf("Reach of none such: %d", e)
		}
	}
	far := ops[6]
	far.X, far.Y = 127, -64
	if got, e := op.Reach(far); e != api.OK || !slices.Equal(got, []api.Span{{Y: -64, From: 127, To: 128}, {Y: -63, From: 127, To: 128}, {Y: -62, From: 127, To: 128}}) {
		t.Errorf("Reach off all canvases: %v %d", got, e)
	}
}

// P12.5
func TestFollows(t *testing.T) {
	r := rand.New(rand.NewSource(2))
	c := noise(t)
	for range 300 {
		o := good()[1+r.Intn(8)]
		if op.Paints(o.Kind) {
			o.X, o.Y = r.Intn(24)-4, r.Intn(24)-4
		}
		if o.X2 != 0 {
			o.X2, o.Y2 = r.Intn(24)-4, r.Intn(24)-4
		}
		if op.Check(o) != api.OK || !op.Same(op.Plain(o), o) {
			t.Fatalf("of %v Plain is another one", o)
		}
		was := c.Show()
		got, e := op.Apply(c, o)
		if e != api.OK || !canvas.Alike(c.Show(), was) {
			t.Fatalf("Apply of %v: %d", o, e)
		}
		l, e := op.Reach(o)
		if o.Kind == api.OpFill {
			continue
		}
		for _, p := range c.Differ(got) {
			if e != api.OK || !shape.Has(l, p) {
				t.Errorf("%v changes %v: %d", o, p, e)
			}
		}
		if !op.Paints(o.Kind) && !got.Same(c) {
			t.Errorf("%v paints", o)
		}
	}
}
