package script

import (
	"iter"
	"slices"
	"strings"

	"gesso/api"
	"gesso/ident"
	"gesso/pixel"
)

// wrong leaves by a panic: a line that is none.
type wrong struct{}

// need leaves, if something does not hold.
func need(holds bool) {
	if !holds {
		panic(wrong{})
	}
}

// line is a line of a text: where it begins, what stands in it, and whether a line feed is behind it.
type line struct {
	at    int
	text  string
	ended bool
}

// lines tells a text's lines; of a text of nothing one that has no line feed.
func lines(text string) iter.Seq[line] {
	return func(yield func(line) bool) {
		for at := 0; at < len(text) || at == 0; {
			row, _, ended := strings.Cut(text[at:], "\n")
			if !yield(line{at, row, ended}) {
				return
			}
			at += len(row) + 1
		}
	}
}

// reader reads a script, line by line, word by word.
type reader struct {
	api.Script
	words []string
	begun bool
}

// line reads a line, and tells whether it is one in its place.
func (r *reader) line(l line) (ok bool) {
	defer func() {
		if _, left := recover().(wrong); left {
			ok = false
		}
	}()
	need(l.ended)
	r.words = strings.Split(l.text, " ")
	word := next(r, func(s string) (string, api.Errno) { return s, api.OK })
	if !r.begun {
		need(word == easel)
		r.easel()
		need(easelLine(r.Script) == l.text+"\n")
		return true
	}
	x := r.event(word)
	need(len(r.words) == 0 && len(r.Events) < api.MaxEvents && mayBe(r.Script, x) && eventLine(x) == l.text+"\n")
	r.Events = append(r.Events, x)
	return true
}

// next is what the next word comes to.
func next[T any](r *reader, come func(string) (T, api.Errno)) T {
	need(len(r.words) > 0)
	x, e := come(r.words[0])
	need(e == api.OK)
	r.words = r.words[1:]
	return x
}

// digits is a number's digits as a number; a nought stands ahead of none.
func digits(word string) (uint64, api.Errno) {
	n, many := uint64(0), 0
	for _, d := range word {
		if d < '0' || d > '9' || many > 0 && n == 0 || n > 1<<32 {
			return 0, api.ErrScript
		}
		n = 10*n + uint64(d-'0')
		many++
	}
	if many == 0 {
		return 0, api.ErrScript
	}
	return n, api.OK
}

// signed is a number that may be below 0.
func signed(word string) (int, api.Errno) {
	below := strings.HasPrefix(word, "-")
	n, e := digits(strings.TrimPrefix(word, "-"))
	if e != api.OK || below && n == 0 {
		return 0, api.ErrScript
	}
	if below {
		return -int(n), api.OK
	}
	return int(n), api.OK
}

// number reads a number.
func (r *reader) number() int { return next(r, signed) }

// color reads a colour.
func (r *reader) color() api.Color { return next(r, pixel.Read) }

// easel reads the first line.
func (r *reader) easel() {
	r.Wide, r.High, r.Sites = r.number(), r.number(), r.number()
	need(len(r.words) == 0 && sizesMayBe(r.Script))
	r.begun = true
}

// event reads the event that a word begins.
func (r *reader) event(word string) api.Event {
	reads := map[string]func() api.Event{
		"join": r.join, "tick": r.tick, "take": r.take, "settle": r.settle, "arm": r.arm, "fall": r.fall, "rise": r.rise,
		"drop": r.drop, "twice": r.twice, "spoil": r.spoil,
		"brush": r.brush, "square": r.brush, "rect": r.rect, "wash": r.rect, "fill": r.fill, "stamp": r.stamp, "undo": r.target, "redo": r.target,
	}
	read, known := reads[word]
	need(known)
	x := read()
	if x.Kind == api.EvCommand {
		kinds := opWords()
		x.Op.Kind = slices.Index(kinds[:], word)
	}
	return x
}

func (r *reader) join() api.Event   { return api.Event{Kind: api.EvJoin, Site: r.number()} }
func (r *reader) tick() api.Event   { return api.Event{Kind: api.EvTick, Site: r.number()} }
func (r *reader) take() api.Event   { return api.Event{Kind: api.EvTake, N: r.number()} }
func (r *reader) settle() api.Event { return api.Event{Kind: api.EvSettle, N: r.number()} }
func (r *reader) arm() api.Event    { return api.Event{Kind: api.EvArm, N: r.number()} }
func (r *reader) rise() api.Event   { return api.Event{Kind: api.EvRise, N: r.number()} }
func (r *reader) fall() api.Event {
	return api.Event{Kind: api.EvFall, N: r.number(), M: r.number()}
}

// trick is the event of a trick.
func trick(t api.Trick) api.Event { return api.Event{Kind: api.EvTrick, Trick: t} }

func (r *reader) drop() api.Event  { return trick(api.Trick{Kind: api.TrDrop, At: r.number()}) }
func (r *reader) twice() api.Event { return trick(api.Trick{Kind: api.TrTwice, At: r.number()}) }
func (r *reader) spoil() api.Event {
	t := api.Trick{Kind: api.TrSpoil, At: r.number(), Bit: r.number()}
	mask := next(r, digits)
	need(mask < 1<<32)
	t.Mask = uint32(mask)
	return trick(t)
}

// command is the event of an operation, whose kind is put in later.
func command(site int, o api.Op) api.Event {
	return api.Event{Kind: api.EvCommand, Site: site, Op: o}
}

func (r *reader) brush() api.Event {
	return command(r.number(), api.Op{X: r.number(), Y: r.number(), X2: r.number(), Y2: r.number(), Size: r.number(), Color: r.color()})
}

func (r *reader) rect() api.Event {
	return command(r.number(), api.Op{X: r.number(), Y: r.number(), X2: r.number(), Y2: r.number(), Color: r.color()})
}

func (r *reader) fill() api.Event {
	return command(r.number(), api.Op{X: r.number(), Y: r.number(), Size: r.number(), Color: r.color()})
}

func (r *reader) stamp() api.Event {
	x := command(r.number(), api.Op{X: r.number(), Y: r.number()})
	s := api.Stamp{Wide: r.number()}
	need(s.Wide > 0)
	for len(r.words) > 0 {
		s.Pixels = append(s.Pixels, r.color())
	}
	s.High = len(s.Pixels) / s.Wide
	x.Op.Stamp = s
	return x
}

func (r *reader) target() api.Event {
	return command(r.number(), api.Op{Target: next(r, ident.Read)})
}
