package script

import (
	"strconv"
	"strings"

	"gesso/api"
	"gesso/ident"
	"gesso/pixel"
)

// easel is the word of a script's first line.
const easel = "easel"

// kindWords is how the kinds of events are called whose line begins with a word of their own.
func kindWords() [api.EvRise + 1]string {
	return [...]string{
		api.EvJoin: "join", api.EvTick: "tick", api.EvTake: "take",
		api.EvSettle: "settle", api.EvArm: "arm", api.EvFall: "fall", api.EvRise: "rise",
	}
}

// opWords is how the kinds of operations are called.
func opWords() [api.OpRedo + 1]string {
	return [...]string{
		api.OpBrush: "brush", api.OpSquare: "square", api.OpRect: "rect", api.OpWash: "wash",
		api.OpFill: "fill", api.OpStamp: "stamp", api.OpUndo: "undo", api.OpRedo: "redo",
	}
}

// trickWords is how the kinds of tricks are called.
func trickWords() [api.TrSpoil + 1]string {
	return [...]string{api.TrDrop: "drop", api.TrTwice: "twice", api.TrSpoil: "spoil"}
}

// lineOf is a line of words.
func lineOf(words ...string) string { return strings.Join(words, " ") + "\n" }

// each is what all of a row come to, one by one.
func each[T, U any](row []T, come func(T) U) []U {
	out := make([]U, 0, len(row))
	for _, x := range row {
		out = append(out, come(x))
	}
	return out
}

// numbers is the words of numbers.
func numbers(n ...int) []string { return each(n, strconv.Itoa) }

// easelLine is a script's first line.
func easelLine(s api.Script) string {
	return lineOf(append([]string{easel}, numbers(s.Wide, s.High, s.Sites)...)...)
}

// eventLine is an event's line.
func eventLine(x api.Event) string {
	word := kindWords()[x.Kind]
	words := numbers(x.N)
	switch x.Kind {
	case api.EvCommand:
		word, words = opWords()[x.Op.Kind], append(numbers(x.Site), opTexts(x.Op)...)
	case api.EvTrick:
		word, words = trickWords()[x.Trick.Kind], numbers(x.Trick.At)
		if x.Trick.Kind == api.TrSpoil {
			words = append(words, strconv.Itoa(x.Trick.Bit), strconv.FormatUint(uint64(x.Trick.Mask), 10))
		}
	case api.EvJoin, api.EvTick:
		words = numbers(x.Site)
	case api.EvFall:
		words = numbers(x.N, x.M)
	}
	return lineOf(append([]string{word}, words...)...)
}

// opTexts is the words of what an operation uses.
func opTexts(o api.Op) []string {
	places := numbers(o.X, o.Y, o.X2, o.Y2)
	switch o.Kind {
	case api.OpBrush, api.OpSquare:
		return append(places, strconv.Itoa(o.Size), pixel.Text(o.Color))
	case api.OpRect, api.OpWash:
		return append(places, pixel.Text(o.Color))
	case api.OpFill:
		return append(numbers(o.X, o.Y, o.Size), pixel.Text(o.Color))
	case api.OpStamp:
		return append(numbers(o.X, o.Y, o.Stamp.Wide), each(o.Stamp.Pixels, pixel.Text)...)
	}
	return []string{ident.Text(o.Target)}
}
