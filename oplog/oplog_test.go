package oplog_test

import (
	"math"
	"math/rand"
	"slices"
	"testing"

	"gesso/api"
	"gesso/ident"
	"gesso/op"
	"gesso/oplog"
)

const most = uint64(api.MaxTime)

func id(time uint64, site int, seq uint64) api.Id { return api.Id{Time: time, Site: site, Seq: seq} }

func rect(time uint64, site int, seq uint64) api.Op {
	return api.Op{Id: id(time, site, seq), Kind: api.OpRect, X: int(time % 50), X2: 3, Color: api.Color{R: 9}}
}

func picture(time uint64, site int, seq uint64) api.Op {
	return api.Op{Id: id(time, site, seq), Kind: api.OpStamp, Stamp: api.Stamp{Wide: 1, High: 1, Pixels: []api.Color{{R: 5}}}}
}

func of(n ...uint64) api.Vector {
	var v api.Vector
	copy(v[1:], n)
	return v
}

func ids(l []api.Op) []api.Id {
	var out []api.Id
	for _, o := range l {
		out = append(out, o.Id)
	}
	return out
}

// filled is a log with these operations, inserted one by one.
func filled(t *testing.T, l api.Log, ops ...api.Op) api.Log {
	t.Helper()
	for _, o := range ops {
		var e api.Errno
		if l, _, e = oplog.Insert(l, o); e != api.OK {
			t.Fatalf("Insert(%v): %d", o.Id, e)
		}
	}
	return l
}

func example(t *testing.T) api.Log {
	return filled(t, oplog.New(), rect(5, 1, 1), rect(3, 2, 1), rect(7, 1, 2))
}

func bad() map[string]api.Log {
	return map[string]api.Log{
		"folded too late": {Folded: most + 1},
		"no base":         {Base: api.Vector{1}},
		"base too great":  {Base: of(most + 1)},
		"no operation":    {Ops: []api.Op{{}}},
		"out of order":    {Ops: []api.Op{rect(5, 1, 1), rect(3, 2, 1)}},
		"twice":           {Ops: []api.Op{rect(5, 1, 1), rect(5, 1, 1)}},
		"not the first":   {Ops: []api.Op{rect(5, 1, 2)}},
		"a gap":           {Ops: []api.Op{rect(5, 1, 1), rect(6, 1, 3)}},
		"in the base":     {Base: of(1), Ops: []api.Op{rect(5, 1, 1)}},
		"folded":          {Folded: 5, Ops: []api.Op{rect(5, 1, 1)}},
		"earlier":         {Ops: []api.Op{rect(5, 1, 1), rect(4, 1, 2)}},
		"turned round":    {Ops: []api.Op{rect(5, 1, 2), rect(5, 1, 1)}},
		"Seqs that fall":  {Ops: []api.Op{rect(5, 1, 2), rect(6, 1, 1)}},
		"a gap of a Time": {Ops: []api.Op{rect(5, 1, 1), rect(5, 1, 3)}},
		"sites of a Time": {Ops: []api.Op{rect(5, 1, 1), rect(5, 2, 1), rect(5, 1, 2)}},
		"a folded Time":   {Folded: 5, Ops: []api.Op{rect(5, 1, 1), rect(5, 1, 2)}},
		"kind":            {Ops: []api.Op{{Id: id(1, 1, 1), Kind: 9}}},
	}
}

// P14.1
func TestCheck(t *testing.T) {
	if l := oplog.New(); oplog.Check(l) != api.OK || !oplog.Same(l, api.Log{}) {
		t.Errorf("New: %v", l)
	}
	for _, l := range []api.Log{{Folded: most, Base: of(most, most)}, {Folded: 4, Base: of(1, 0, 7), Ops: []api.Op{rect(5, 1, 2), rect(5, 3, 8), rect(6, 1, 3)}}, {Folded: most - 1, Base: of(most - 1), Ops: []api.Op{rect(most, 1, most)}}} {
		if oplog.Check(l) != api.OK {
			t.Errorf("Check(%v)", l)
		}
	}
	for name, l := range bad() {
		if oplog.Check(l) != api.ErrLog {
			t.Errorf("Check of %s", name)
		}
	}
}

// P14.1
func TestSame(t *testing.T) {
	a := example(t)
	if !oplog.Same(a, example(t)) || !oplog.Same(bad()["twice"], bad()["twice"]) || !oplog.Same(api.Log{}, api.Log{Ops: []api.Op{}}) {
		t.Errorf("Same of the same")
	}
	for name, f := range map[string]func(l *api.Log){
		"Folded": func(l *api.Log) { l.Folded++ }, "Base": func(l *api.Log) { l.Base[4]++ }, "one less": func(l *api.Log) { l.Ops = l.Ops[:2] }, "an operation": func(l *api.Log) { l.Ops[1].X++ },
	} {
		b := example(t)
		if f(&b); oplog.Same(a, b) || oplog.Same(b, a) {
			t.Errorf("Same with another %s", name)
		}
	}
}

// oneTime is a log in which two sites have several operations of one Time each.
func oneTime() api.Log {
	return api.Log{Folded: 9, Base: of(4), Ops: []api.Op{rect(10, 1, 5), rect(10, 1, 6), rect(10, 2, 1), rect(10, 2, 2), rect(11, 1, 7)}}
}

// P14.1, P14.2: of one site and one Time ids rise by their Seqs.
func TestOneTime(t *testing.T) {
	last := api.Log{Folded: most - 1, Base: of(most - 2), Ops: []api.Op{rect(most, 1, most-1), rect(most, 1, most)}}
	for _, x := range []struct {
		l    api.Log
		want api.Vector
	}{{api.Log{Ops: []api.Op{rect(10, 1, 1), rect(10, 1, 2)}}, of(2)}, {oneTime(), of(7, 2)}, {last, of(most)}} {
		if e := oplog.Check(x.l); e != api.OK || oplog.Vector(x.l) != x.want {
			t.Errorf("Check: %d, Vector: %v", e, oplog.Vector(x.l))
		}
	}
}

// P14.3: what is inserted has to have a Time above its site's last one all the same.
func TestInsertOneTime(t *testing.T) {
	l := oneTime()
	for _, x := range []struct {
		o  api.Op
		at int
		e  api.Errno
	}{
		{rect(10, 2, 3), 0, api.ErrBehind}, {rect(11, 1, 8), 0, api.ErrBehind}, {rect(9, 3, 1), 0, api.ErrBehind}, {rect(10, 2, 2), 0, api.ErrThere}, {rect(12, 1, 6), 0, api.ErrThere}, {rect(10, 2, 4), 0, api.ErrGap},
		{rect(11, 2, 3), 5, api.OK}, {rect(12, 1, 8), 5, api.OK}, {rect(10, 3, 1), 4, api.OK},
	} {
		got, at, e := oplog.Insert(l, x.o)
		if e != x.e || at != x.at || e == api.OK && (oplog.Check(got) != api.OK || len(got.Ops) != 6 || !op.Same(got.Ops[at], x.o)) {
			t.Errorf("Insert(%v): %d %d", x.o.Id, at, e)
		}
	}
	got, es := oplog.Inserts(l, rect(10, 2, 3), rect(11, 2, 3), rect(11, 2, 4))
	if !slices.Equal(es, []api.Errno{api.ErrBehind, api.OK, api.ErrBehind}) || oplog.Vector(got) != of(7, 3) {
		t.Errorf("Inserts: %v", es)
	}
}

// P14.4, P14.5, P14.6
func TestLookOneTime(t *testing.T) {
	l := oneTime()
	for at, o := range l.Ops {
		if got, n, e := oplog.At(l, o.Id); e != api.OK || n != at || !op.Same(got, o) {
			t.Errorf("At(%v): %d %d", o.Id, n, e)
		}
		if got := ids(oplog.Above(l, o.Id)); !slices.Equal(got, ids(l.Ops[at+1:])) {
			t.Errorf("Above(%v): %v", o.Id, got)
		}
	}
	if got, e := oplog.Missing(l, of(5, 1), 2); e != api.OK || !slices.Equal(ids(got), []api.Id{id(10, 1, 6), id(10, 2, 2)}) {
		t.Errorf("Missing: %v %d", ids(got), e)
	}
	if got := ids(oplog.Own(l, 1, 5)); !slices.Equal(got, []api.Id{id(10, 1, 6), id(11, 1, 7)}) {
		t.Errorf("Own: %v", got)
	}
	left, folded, e := oplog.Fold(l, 10)
	if e != api.OK || !slices.Equal(ids(folded), ids(l.Ops[:4])) || !oplog.Same(left, api.Log{Folded: 10, Base: of(6, 2), Ops: l.Ops[4:]}) {
		t.Errorf("Fold: %v %v %d", ids(folded), left, e)
	}
}

// P14.2
func TestVector(t *testing.T) {
	if got := oplog.Vector(example(t)); got != of(2, 1) {
		t.Errorf("Vector: %v", got)
	}
	if got := oplog.Vector(api.Log{Folded: 4, Base: of(1, 0, 7), Ops: []api.Op{rect(5, 1, 2), rect(5, 3, 8), rect(6, 1, 3)}}); got != of(3, 0, 8) {
		t.Errorf("Vector with a base: %v", got)
	}
	for name, l := range bad() {
		if oplog.Vector(l) != (api.Vector{}) {
			t.Errorf("Vector of %s", name)
		}
	}
}

// P14.3
func TestInsert(t *testing.T) {
	l := example(t)
	if got := ids(l.Ops); !slices.Equal(got, []api.Id{id(3, 2, 1), id(5, 1, 1), id(7, 1, 2)}) {
		t.Errorf("in order: %v", got)
	}
	keep := example(t)
	for _, x := range []struct {
		o  api.Op
		at int
		e  api.Errno
	}{
		{rect(4, 2, 2), 1, api.OK}, {rect(1, 3, 1), 0, api.OK}, {rect(9, 1, 3), 3, api.OK}, {rect(5, 2, 2), 2, api.OK}, {rect(7, 8, 1), 3, api.OK}, {rect(8, 1, 3), 3, api.OK},
		{rect(7, 1, 2), 0, api.ErrThere}, {rect(2, 1, 2), 0, api.ErrThere}, {rect(9, 1, 4), 0, api.ErrGap}, {rect(2, 2, 2), 0, api.ErrBehind}, {rect(3, 2, 2), 0, api.ErrBehind}, {rect(7, 1, 3), 0, api.ErrBehind}, {rect(1, 1, 9), 0, api.ErrGap},
		{api.Op{Id: id(7, 1, 2)}, 0, api.ErrOp}, {api.Op{}, 0, api.ErrOp},
	} {
		got, at, e := oplog.Insert(l, x.o)
		if e != x.e || at != x.at {
			t.Errorf("Insert(%v): %d %d", x.o.Id, at, e)
		}
		if e == api.OK && (oplog.Check(got) != api.OK || len(got.Ops) != 4 || !op.Same(got.Ops[at], x.o)) {
			t.Errorf("Insert(%v): %v", x.o.Id, ids(got.Ops))
		}
		if e != api.OK && !oplog.Same(got, api.Log{}) {
			t.Errorf("Insert(%v) with an error tells %v", x.o.Id, got)
		}
		if !oplog.Same(l, keep) {
			t.Fatalf("Insert changes what it was handed")
		}
	}
	folded := api.Log{Folded: 5, Base: of(1, 1)}
	for time, want := range map[uint64]api.Errno{4: api.ErrBehind, 5: api.ErrBehind, 6: api.OK} {
		if _, _, e := oplog.Insert(folded, rect(time, 2, 2)); e != want {
			t.Errorf("Insert of Time %d above 5: %d", time, e)
		}
	}
	for name, l := range bad() {
		if got, at, e := oplog.Insert(l, api.Op{}); e != api.ErrLog || at != 0 || !oplog.Same(got, api.Log{}) {
			t.Errorf("Insert in %s: %d", name, e)
		}
	}
}

// P14.3
func TestInserts(t *testing.T) {
	l, es := oplog.Inserts(oplog.New(), rect(5, 1, 1), rect(9, 1, 3), rect(3, 2, 1), api.Op{}, rect(5, 1, 1), rect(7, 1, 2), rect(2, 2, 2))
	if !slices.Equal(es, []api.Errno{api.OK, api.ErrGap, api.OK, api.ErrOp, api.ErrThere, api.OK, api.ErrBehind}) || !oplog.Same(l, example(t)) {
		t.Errorf("Inserts: %v %v", es, ids(l.Ops))
	}
	if l, es := oplog.Inserts(example(t)); len(es) != 0 || !oplog.Same(l, example(t)) {
		t.Errorf("Inserts of none: %v", es)
	}
	for name, l := range bad() {
		if got, es := oplog.Inserts(l, rect(5, 1, 1), api.Op{}); !oplog.Same(got, api.Log{}) || !slices.Equal(es, []api.Errno{api.ErrLog, api.ErrLog}) {
			t.Errorf("Inserts in %s: %v", name, es)
		}
	}
}

// P14.4
func TestAtAbove(t *testing.T) {
	l := example(t)
	for at, o := range l.Ops {
		if got, n, e := oplog.At(l, o.Id); e != api.OK || n != at || !op.Same(got, o) {
			t.Errorf("At(%v): %d %d", o.Id, n, e)
		}
	}
	for _, i := range []api.Id{{}, id(5, 1, 2), id(5, 2, 1), id(9, 9, 9), id(3, 2, 0)} {
		if got, n, e := oplog.At(l, i); e != api.ErrNone || n != 0 || !op.Same(got, api.Op{}) {
			t.Errorf("At(%v): %d %d", i, n, e)
		}
	}
	for _, x := range []struct {
		i    api.Id
		want []api.Id
	}{
		{id(4, 9, 9), []api.Id{id(5, 1, 1), id(7, 1, 2)}}, {id(5, 1, 1), []api.Id{id(7, 1, 2)}}, {api.Id{}, ids(l.Ops)}, {id(7, 1, 2), nil}, {id(math.MaxUint64, 0, 0), nil}, {id(3, 2, 0), ids(l.Ops)},
	} {
		if got := ids(oplog.Above(l, x.i)); !slices.Equal(got, x.want) {
			t.Errorf("Above(%v): %v", x.i, got)
		}
	}
	for name, l := range bad() {
		_, n, e := oplog.At(l, id(5, 1, 1))
		if e != api.ErrLog || n != 0 || oplog.Above(l, api.Id{}) != nil {
			t.Errorf("At, Above of %s: %d", name, e)
		}
	}
}

// P14.5
func TestMissingOwn(t *testing.T) {
	l := example(t)
	for _, x := range []struct {
		v    api.Vector
		most int
		want []api.Id
		e    api.Errno
	}{
		{of(1), 5, []api.Id{id(3, 2, 1), id(7, 1, 2)}, api.OK}, {of(1), 1, []api.Id{id(3, 2, 1)}, api.OK}, {of(), 0, nil, api.OK}, {of(9, 9), 5, nil, api.OK}, {of(), math.MaxInt, ids(l.Ops), api.OK},
		{of(), -1, nil, api.ErrArg}, {of(most + 1), 5, nil, api.ErrArg}, {api.Vector{1}, 5, nil, api.ErrArg},
	} {
		if got, e := oplog.Missing(l, x.v, x.most); e != x.e || !slices.Equal(ids(got), x.want) {
			t.Errorf("Missing(%v, %d): %v %d", x.v, x.most, ids(got), e)
		}
	}
	above := api.Log{Folded: 4, Base: of(1, 0, 7), Ops: []api.Op{rect(5, 1, 2), rect(5, 3, 8), rect(6, 1, 3)}}
	if got, e := oplog.Missing(above, of(0, 9, 9), 5); e != api.ErrGap || got != nil {
		t.Errorf("Missing of a folded one: %v %d", got, e)
	}
	if got, e := oplog.Missing(above, of(1, 0, 7), 2); e != api.OK || !slices.Equal(ids(got), []api.Id{id(5, 1, 2), id(5, 3, 8)}) {
		t.Errorf("Missing above a base: %v %d", ids(got), e)
	}
	if got, e := oplog.Missing(above, api.Vector{1}, -1); e != api.ErrArg || got != nil {
		t.Errorf("Missing: %d", e)
	}
	for _, x := range []struct {
		site  int
		after uint64
		want  []api.Id
	}{{1, 0, []api.Id{id(5, 1, 2), id(6, 1, 3)}}, {1, 2, []api.Id{id(6, 1, 3)}}, {1, 3, nil}, {3, 7, []api.Id{id(5, 3, 8)}}, {2, 0, nil}, {0, 0, nil}, {99, 0, nil}, {-1, 0, nil}} {
		if got := oplog.Own(above, x.site, x.after); !slices.Equal(ids(got), x.want) {
			t.Errorf("Own(%d, %d): %v", x.site, x.after, ids(got))
		}
	}
	for name, l := range bad() {
		if got, e := oplog.Missing(l, api.Vector{1}, -1); e != api.ErrLog || got != nil || oplog.Own(l, 1, 0) != nil {
			t.Errorf("Missing of %s: %d", name, e)
		}
	}
}

// P14.6
func TestFold(t *testing.T) {
	l := example(t)
	got, folded, e := oplog.Fold(l, 5)
	if e != api.OK || !slices.Equal(ids(folded), []api.Id{id(3, 2, 1), id(5, 1, 1)}) || !oplog.Same(got, api.Log{Folded: 5, Base: of(1, 1), Ops: []api.Op{rect(7, 1, 2)}}) {
		t.Errorf("Fold(5): %v %d", got, e)
	}
	if !oplog.Same(l, example(t)) {
		t.Errorf("Fold changes what it was handed")
	}
	if _, _, e := oplog.Insert(got, rect(5, 2, 2)); e != api.ErrBehind {
		t.Errorf("Insert at what is folded: %d", e)
	}
	for _, x := range []struct {
		time uint64
		many int
	}{{0, 0}, {2, 0}, {4, 1}, {6, 2}, {7, 3}, {most, 3}} {
		got, folded, e := oplog.Fold(l, x.time)
		if e != api.OK || len(folded) != x.many || got.Folded != x.time || len(got.Ops) != 3-x.many || oplog.Check(got) != api.OK {
			t.Errorf("Fold(%d): %d folded, %d", x.time, len(folded), e)
		}
	}
	for _, time := range []uint64{4, 0, most + 1, math.MaxUint64} {
		if again, folded, e := oplog.Fold(got, time); e != api.ErrArg || folded != nil || !oplog.Same(again, api.Log{}) {
			t.Errorf("Fold(%d): %d", time, e)
		}
	}
	if again, folded, e := oplog.Fold(got, 5); e != api.OK || len(folded) != 0 || !oplog.Same(again, got) {
		t.Errorf("folded again: %d", e)
	}
	for name, l := range bad() {
		if _, _, e := oplog.Fold(l, most+1); e != api.ErrLog {
			t.Errorf("Fold of %s: %d", name, e)
		}
	}
}

// What is answered is new memory.
func TestMemory(t *testing.T) {
	l := filled(t, oplog.New(), picture(1, 1, 1), picture(2, 2, 1))
	o := picture(3, 1, 2)
	in, _, _ := oplog.Insert(l, o)
	ins, _ := oplog.Inserts(l, o)
	at, _, _ := oplog.At(l, id(1, 1, 1))
	missing, _ := oplog.Missing(l, of(), 9)
	out, folded, _ := oplog.Fold(l, 1)
	for _, ops := range [][]api.Op{in.Ops, ins.Ops, {at}, oplog.Above(l, api.Id{}), missing, oplog.Own(l, 1, 0), out.Ops, folded} {
		for i := range ops {
			ops[i].Stamp.Pixels[0].R = 77
		}
	}
	if o.Stamp.Pixels[0].R != 5 || l.Ops[0].Stamp.Pixels[0].R != 5 || l.Ops[1].Stamp.Pixels[0].R != 5 {
		t.Errorf("memory is shared")
	}
}

// P14.7
func TestFollows(t *testing.T) {
	r := rand.New(rand.NewSource(1))
	for range 100 {
		var ops []api.Op
		for site := 1; site <= 3; site++ {
			time := uint64(0)
			for seq := 1; seq <= r.Intn(5); seq++ {
				time += 1 + uint64(r.Intn(4))
				ops = append(ops, rect(time, site, uint64(seq)))
			}
		}
		l, _ := oplog.Inserts(oplog.New(), ops...)
		if len(l.Ops) != len(ops) || !ident.Rising(ids(l.Ops)) {
			t.Fatalf("Inserts: %v", ids(l.Ops))
		}
		// Another order, in which each site's stand as they were.
		other := oplog.New()
		for left := slices.Clone(ops); len(left) > 0; {
			at := r.Intn(len(left))
			next, _, e := oplog.Insert(other, left[at])
			if e == api.OK {
				other, left = next, slices.Delete(left, at, at+1)
			}
		}
		if !oplog.Same(l, other) {
			t.Errorf("another order, another log")
		}
		missing, _ := oplog.Missing(l, of(1, 1), 99)
		less, _ := oplog.Inserts(oplog.New(), slices.DeleteFunc(slices.Clone(ops), func(o api.Op) bool { return o.Id.Site < 3 && o.Id.Seq > 1 || o.Id.Site == 3 })...)
		if oplog.Vector(less)[1] == 1 && oplog.Vector(less)[2] == 1 {
			if whole, es := oplog.Inserts(less, missing...); !oplog.Same(whole, l) || slices.ContainsFunc(es, func(e api.Errno) bool { return e != api.OK }) {
				t.Errorf("what is missing can't be inserted: %v", es)
			}
		}
		a, b := uint64(r.Intn(8)), uint64(r.Intn(8))
		once, _, _ := oplog.Fold(l, max(a, b))
		first, _, _ := oplog.Fold(l, min(a, b))
		twice, _, _ := oplog.Fold(first, max(a, b))
		if !oplog.Same(once, twice) || oplog.Vector(once) != oplog.Vector(l) {
			t.Errorf("folded twice: %v, %v", once, twice)
		}
	}
}
