package pixel_test

import (
	"math"
	"math/rand"
	"testing"

	"gesso/api"
	"gesso/pixel"
)

func c(r, g, b, a byte) api.Color { return api.Color{R: r, G: g, B: b, A: a} }

func random(r *rand.Rand) api.Color {
	x := r.Uint32()
	return c(byte(x), byte(x>>8), byte(x>>16), byte(x>>24))
}

func share(n, p int) int { return (n*p + 127) / 255 }

// P3.1
func TestOver(t *testing.T) {
	for _, x := range []struct{ under, over, want api.Color }{
		{c(10, 20, 30, 255), c(200, 100, 50, 128), c(105, 60, 40, 255)},
		{c(10, 20, 30, 40), c(1, 2, 3, 255), c(1, 2, 3, 255)},
		{c(10, 20, 30, 40), c(1, 2, 3, 0), c(10, 20, 30, 40)},
		{c(0, 0, 0, 0), c(255, 254, 1, 1), c(1, 1, 0, 1)},
		{c(0, 0, 0, 100), c(0, 0, 0, 100), c(0, 0, 0, 161)},
	} {
		if got := pixel.Over(x.under, x.over); got != x.want {
			t.Errorf("Over(%v, %v) = %v, not %v", x.under, x.over, got, x.want)
		}
	}
	r := rand.New(rand.NewSource(1))
	for range 2000 {
		u, o := random(r), random(r)
		a := int(o.A)
		part := func(over, under byte) byte { return byte((int(over)*a + int(under)*(255-a) + 127) / 255) }
		want := c(part(o.R, u.R), part(o.G, u.G), part(o.B, u.B), byte(a+share(int(u.A), 255-a)))
		if got := pixel.Over(u, o); got != want {
			t.Fatalf("Over(%v, %v) = %v, not %v", u, o, got, want)
		}
	}
}

// P3.1
func TestMix(t *testing.T) {
	if got := pixel.Mix(c(0, 0, 0, 0), c(255, 255, 255, 255), 128); got != c(128, 128, 128, 128) {
		t.Errorf("Mix: %v", got)
	}
	r := rand.New(rand.NewSource(2))
	for range 2000 {
		a, b, p := random(r), random(r), r.Intn(256)
		part := func(x, y byte) byte { return byte((int(x)*(255-p) + int(y)*p + 127) / 255) }
		want := c(part(a.R, b.R), part(a.G, b.G), part(a.B, b.B), part(a.A, b.A))
		if got := pixel.Mix(a, b, byte(p)); got != want {
			t.Fatalf("Mix(%v, %v, %d) = %v, not %v", a, b, p, got, want)
		}
	}
}

// P3.1
func TestLayers(t *testing.T) {
	under := c(9, 8, 7, 6)
	if pixel.Layers(under) != under {
		t.Errorf("Layers of none")
	}
	x, y, z := c(200, 0, 0, 100), c(0, 200, 0, 50), c(0, 0, 200, 25)
	if got, want := pixel.Layers(under, x, y, z), pixel.Over(pixel.Over(pixel.Over(under, x), y), z); got != want {
		t.Errorf("Layers: %v, not %v", got, want)
	}
}

// P3.2
func TestFar(t *testing.T) {
	for _, x := range []struct {
		a, b api.Color
		far  int
	}{
		{c(1, 2, 3, 4), c(4, 3, 2, 1), 8}, {c(0, 0, 0, 0), c(255, 255, 255, 255), api.MaxFar},
		{c(5, 5, 5, 5), c(5, 5, 5, 5), 0}, {c(5, 5, 5, 5), c(5, 5, 5, 6), 1}, {c(7, 0, 0, 0), c(0, 0, 0, 0), 7},
		{c(0, 7, 0, 0), c(0, 0, 0, 0), 7}, {c(0, 0, 7, 0), c(0, 0, 0, 0), 7},
	} {
		if got := pixel.Far(x.a, x.b); got != x.far || pixel.Far(x.b, x.a) != x.far {
			t.Errorf("Far(%v, %v) = %d", x.a, x.b, got)
		}
		if !pixel.Near(x.a, x.b, x.far) || pixel.Near(x.a, x.b, x.far-1) || !pixel.Near(x.a, x.b, x.far+1) {
			t.Errorf("Near(%v, %v) about %d", x.a, x.b, x.far)
		}
		if !pixel.Near(x.a, x.b, math.MaxInt) || pixel.Near(x.a, x.b, math.MinInt) {
			t.Errorf("Near by the greatest, the least")
		}
	}
}

// P3.2
func TestNearest(t *testing.T) {
	for _, x := range []struct {
		l    []api.Color
		want int
	}{
		{nil, -1}, {[]api.Color{c(0, 0, 0, 0), c(9, 9, 9, 9)}, 1}, {[]api.Color{c(4, 5, 5, 5), c(5, 5, 5, 6)}, 0},
		{[]api.Color{c(255, 255, 255, 255)}, 0}, {[]api.Color{c(0, 0, 0, 0), c(6, 5, 5, 5), c(5, 6, 5, 5), c(0, 0, 0, 0)}, 1},
	} {
		if got := pixel.Nearest(c(5, 5, 5, 5), x.l...); got != x.want {
			t.Errorf("Nearest of %v: %d", x.l, got)
		}
	}
	if pixel.Nearest(c(0, 0, 0, 0), c(255, 255, 255, 255)) != 0 {
		t.Errorf("Nearest of one as far as can be")
	}
}

// P3.3
func TestPack(t *testing.T) {
	if pixel.Pack(c(1, 2, 3, 4)) != 16909060 || pixel.Unpack(0xfedcba98) != c(0xfe, 0xdc, 0xba, 0x98) {
		t.Errorf("Pack, Unpack")
	}
}

// P3.3
func TestText(t *testing.T) {
	if got := pixel.Text(c(1, 2, 3, 255)); got != "010203ff" {
		t.Errorf("Text: %s", got)
	}
	if got := pixel.Text(c(0xa0, 0x9b, 0xcd, 0xe0)); got != "a09bcde0" {
		t.Errorf("Text: %s", got)
	}
	if got, e := pixel.Read("019aaff0"); e != api.OK || got != c(1, 0x9a, 0xaf, 0xf0) {
		t.Errorf("Read: %v %d", got, e)
	}
	for _, s := range []string{"", "0", "0102030", "010203040", "01g20304", "01020A04", " 1020304", "-1020304", "010203/0", "010203:0", "010203`0", "0102030é", "010203é", "é10203éé", "010203\xff4", "+1020304", "0x010203"} {
		if got, e := pixel.Read(s); e != api.ErrColor || got != c(0, 0, 0, 0) {
			t.Errorf("Read(%q): %v %d", s, got, e)
		}
	}
}

// P3.4
func TestFollows(t *testing.T) {
	r := rand.New(rand.NewSource(3))
	for range 500 {
		a, b, x := random(r), random(r), random(r)
		solid, none := b, b
		solid.A, none.A = 255, 0
		if pixel.Over(a, solid) != solid || pixel.Over(a, none) != a {
			t.Errorf("Over of what hides, or is not there")
		}
		if pixel.Mix(a, b, 0) != a || pixel.Mix(a, b, 255) != b {
			t.Errorf("Mix by 0, 255")
		}
		if pixel.Far(a, b) > pixel.Far(a, x)+pixel.Far(x, b) || pixel.Far(a, b) > api.MaxFar || pixel.Far(a, b) == 0 != (a == b) {
			t.Errorf("Far(%v, %v)", a, b)
		}
		if pixel.Unpack(pixel.Pack(a)) != a {
			t.Errorf("Unpack of Pack")
		}
		if got, e := pixel.Read(pixel.Text(a)); e != api.OK || got != a {
			t.Errorf("Read of Text(%v): %v %d", a, got, e)
		}
	}
}
