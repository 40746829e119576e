package ident_test

import (
	"math"
	"math/rand"
	"slices"
	"testing"

	"gesso/api"
	"gesso/ident"
)

func id(time uint64, site int, seq uint64) api.Id { return api.Id{Time: time, Site: site, Seq: seq} }

const most = uint64(api.MaxTime)

// P11.1
func TestCheck(t *testing.T) {
	for _, i := range []api.Id{id(1, 1, 1), id(most, 8, most), id(7, 3, 9)} {
		if ident.Check(i) != api.OK {
			t.Errorf("Check(%v)", i)
		}
	}
	for _, i := range []api.Id{{}, id(0, 1, 1), id(1, 0, 1), id(1, 1, 0), id(most+1, 1, 1), id(1, 9, 1), id(1, 1, most+1), id(1, -1, 1), id(math.MaxUint64, math.MaxInt, math.MaxUint64)} {
		if ident.Check(i) != api.ErrId {
			t.Errorf("Check(%v)", i)
		}
	}
}

// P11.1, P11.5
func TestCompare(t *testing.T) {
	l := []api.Id{id(0, -1, 5), id(0, 0, 0), id(1, 1, 1), id(1, 1, 2), id(1, 2, 1), id(2, 1, 1), id(2, 1, 9), id(2, 2, 1), id(math.MaxUint64, math.MinInt, 0), id(math.MaxUint64, math.MaxInt, 0), id(math.MaxUint64, math.MaxInt, math.MaxUint64)}
	for x, a := range l {
		for y, b := range l {
			want := 0
			if x < y {
				want = -1
			} else if x > y {
				want = 1
			}
			if ident.Compare(a, b) != want || ident.Less(a, b) != (want < 0) {
				t.Errorf("Compare(%v, %v) = %d", a, b, ident.Compare(a, b))
			}
		}
	}
}

// P11.2
func TestSorted(t *testing.T) {
	l := []api.Id{id(3, 1, 2), id(2, 2, 1), id(2, 1, 9)}
	keep := slices.Clone(l)
	if got := ident.Sorted(l...); !slices.Equal(got, []api.Id{l[2], l[1], l[0]}) {
		t.Errorf("Sorted: %v", got)
	}
	if !slices.Equal(l, keep) {
		t.Errorf("Sorted changes what it was handed")
	}
	if got := ident.Sorted(l[0], l[0], l[1]); !slices.Equal(got, []api.Id{l[1], l[0], l[0]}) {
		t.Errorf("Sorted of twice the same: %v", got)
	}
	if len(ident.Sorted()) != 0 {
		t.Errorf("Sorted of none")
	}
	r := rand.New(rand.NewSource(1))
	for range 50 {
		var l []api.Id
		for range r.Intn(20) {
			l = append(l, id(uint64(r.Intn(3)), r.Intn(3), uint64(r.Intn(3))))
		}
		want := slices.Clone(l)
		slices.SortFunc(want, ident.Compare)
		if !slices.Equal(ident.Sorted(l...), want) {
			t.Errorf("Sorted(%v)", l)
		}
	}
}

// P11.2
func TestRising(t *testing.T) {
	for _, x := range []struct {
		l    []api.Id
		want bool
	}{
		{nil, true}, {[]api.Id{{}}, true}, {[]api.Id{id(1, 1, 1), id(1, 2, 1), id(2, 1, 1)}, true}, {[]api.Id{id(1, 1, 1), id(1, 1, 1)}, false},
		{[]api.Id{id(1, 1, 1), id(2, 1, 1), id(1, 1, 3)}, false}, {[]api.Id{id(2, 1, 1), id(1, 1, 1), id(3, 1, 3)}, false}, {[]api.Id{id(1, 2, 1), id(1, 1, 1)}, false},
	} {
		if ident.Rising(x.l) != x.want {
			t.Errorf("Rising(%v)", x.l)
		}
	}
}

// P11.3
func TestClock(t *testing.T) {
	for site := 1; site <= 8; site++ {
		if c, e := ident.New(site); e != api.OK || c != (api.Clock{Site: site}) {
			t.Errorf("New(%d): %v %d", site, c, e)
		}
	}
	for _, site := range []int{0, 9, -1, math.MaxInt, math.MinInt} {
		if c, e := ident.New(site); e != api.ErrArg || c != (api.Clock{}) {
			t.Errorf("New(%d): %v %d", site, c, e)
		}
	}
	for _, c := range []api.Clock{{Site: 1}, {Site: 8, Time: most, Seq: most}} {
		if ident.CheckClock(c) != api.OK {
			t.Errorf("CheckClock(%v)", c)
		}
	}
	for _, c := range []api.Clock{{}, {Site: 9}, {Site: -1}, {Site: 1, Time: most + 1}, {Site: 1, Seq: most + 1}} {
		_, _, e := ident.Next(c)
		_, f := ident.See(c, most+1)
		if ident.CheckClock(c) != api.ErrClock || e != api.ErrClock || f != api.ErrClock {
			t.Errorf("of %v: %d %d", c, e, f)
		}
	}
}

// P11.3
func TestNextSee(t *testing.T) {
	c, i, e := ident.Next(api.Clock{Site: 2, Time: 7, Seq: 3})
	if e != api.OK || i != id(8, 2, 4) || c != (api.Clock{Site: 2, Time: 8, Seq: 4}) {
		t.Errorf("Next: %v %v %d", c, i, e)
	}
	c, e = ident.See(c, 5, 20, 11)
	if e != api.OK || c != (api.Clock{Site: 2, Time: 20, Seq: 4}) {
		t.Errorf("See: %v %d", c, e)
	}
	if _, i, _ := ident.Next(c); i != id(21, 2, 5) {
		t.Errorf("Next: %v", i)
	}
	for _, c := range []api.Clock{{Site: 1, Time: most}, {Site: 1, Seq: most}} {
		if d, i, e := ident.Next(c); e != api.ErrLate || d != (api.Clock{}) || i != (api.Id{}) {
			t.Errorf("Next(%v): %v %v %d", c, d, i, e)
		}
	}
	if _, i, e := ident.Next(api.Clock{Site: 1, Time: most - 1, Seq: most - 1}); e != api.OK || i != id(most, 1, most) {
		t.Errorf("the last id: %v %d", i, e)
	}
	if c, e := ident.See(api.Clock{Site: 1}, most); e != api.OK || c.Time != most {
		t.Errorf("See of MaxTime: %v %d", c, e)
	}
	if c, e := ident.See(api.Clock{Site: 1}, 4, most+1, 5); e != api.ErrArg || c != (api.Clock{}) {
		t.Errorf("See of more: %v %d", c, e)
	}
	if c, e := ident.See(api.Clock{Site: 1, Time: 9}); e != api.OK || c.Time != 9 {
		t.Errorf("See of none: %v %d", c, e)
	}
}

// P11.4
func TestText(t *testing.T) {
	for _, x := range []struct {
		i api.Id
		s string
	}{
		{id(8, 2, 4), "8.2.4"}, {id(0, 0, 0), "0.0.0"}, {id(10, -3, 100), "10.-3.100"}, {id(math.MaxUint64, math.MinInt, most), "18446744073709551615.-9223372036854775808.4611686018427387904"},
	} {
		if got := ident.Text(x.i); got != x.s {
			t.Errorf("Text(%v) = %s", x.i, got)
		}
	}
	if i, e := ident.Read("4611686018427387904.8.4611686018427387904"); e != api.OK || i != id(most, 8, most) {
		t.Errorf("Read of the greatest: %v %d", i, e)
	}
	for _, s := range []string{"", ".", "..", "8", "8.2", "8.2.", ".2.4", "8..4", "8.2.4.", "8.2.4.1", "08.2.4", "8.02.4", "8.2.04", "0.1.1", "1.0.1", "1.1.0", "1.9.1", "1.-1.1", "+8.2.4", "8 .2.4", "8.2.4 ", " 8.2.4", "a.2.4", "8,2.4", "4611686018427387905.1.1", "1.1.4611686018427387905", "18446744073709551617.1.1", "1.18446744073709551617.1", "1.1.184467440737095516170", "٨.2.4", "8.2.4\n", "1.1.\xff", "1/1.1", "1.1.:", "00.1.1"} {
		if i, e := ident.Read(s); e != api.ErrId || i != (api.Id{}) {
			t.Errorf("Read(%q): %v %d", s, i, e)
		}
	}
}

// P11.5
func TestFollows(t *testing.T) {
	r := rand.New(rand.NewSource(2))
	c, _ := ident.New(3)
	last := api.Id{}
	for range 300 {
		seen := uint64(r.Intn(1000))
		c, _ = ident.See(c, seen)
		d, i, e := ident.Next(c)
		if e != api.OK || i.Time <= last.Time || i.Seq != last.Seq+1 || i.Site != 3 || !ident.Less(last, i) || i.Time <= seen {
			t.Fatalf("%v behind %v", i, last)
		}
		c, last = d, i
		if got, e := ident.Read(ident.Text(i)); e != api.OK || got != i {
			t.Errorf("Read of Text(%v): %v %d", i, got, e)
		}
	}
}
