package pixel

import (
	"gesso/api"
)

// digits is how many digits a colour's text has.
const digits = 2 * count

// noDigit leaves by a panic.
type noDigit struct{}

// Pack is a colour's word.
func Pack(c api.Color) uint32 { return worked{c}.word() }

// Unpack is the colour of a word.
func Unpack(w uint32) api.Color {
	return colorOf(parts{byte(w >> 24), byte(w >> 16), byte(w >> 8), byte(w)})
}

// Text is a colour's text.
func Text(c api.Color) string {
	const names = "0123456789abcdef"
	out := make([]byte, 0, digits)
	for _, part := range partsOf(c).told() {
		out = append(out, names[part>>4], names[part&15])
	}
	return string(out)
}

// Read is the colour of a text.
func Read(s string) (c api.Color, e api.Errno) {
	if len(s) != digits {
		return api.Color{}, api.ErrColor
	}
	defer func() {
		if _, ok := recover().(noDigit); ok {
			c, e = api.Color{}, api.ErrColor
		}
	}()
	word := uint32(0)
	for _, r := range s {
		word = word<<4 | digit(r)
	}
	return Unpack(word), api.OK
}

// digit is what a digit to the base 16 stands for.
func digit(r rune) uint32 {
	switch {
	case r >= '0' && r <= '9':
		return uint32(r - '0')
	case r >= 'a' && r <= 'f':
		return uint32(r-'a') + 10
	}
	panic(noDigit{})
}
