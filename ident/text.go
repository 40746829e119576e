package ident

import (
	"strconv"

	"gesso/api"
)

// parts is how many numbers an id's text has.
const parts = 3

// noText leaves by a panic: a text is no id's.
type noText struct{}

// need leaves, if something does not hold.
func need(holds bool) {
	if !holds {
		panic(noText{})
	}
}

// Text is an id's text.
func Text(i api.Id) string {
	return strconv.FormatUint(i.Time, 10) + "." + strconv.Itoa(i.Site) + "." + strconv.FormatUint(i.Seq, 10)
}

// Read is the id of a text.
func Read(s string) (i api.Id, e api.Errno) {
	defer func() {
		if _, ok := recover().(noText); ok {
			i, e = api.Id{}, api.ErrId
		}
	}()
	n := numbers(s)
	need(n[1] <= api.MaxSites)
	i = api.Id{Time: n[0], Site: int(n[1]), Seq: n[2]}
	need(Check(i) == api.OK)
	return i, api.OK
}

// numbers is the numbers of a text that points part.
func numbers(s string) [parts]uint64 {
	var n [parts]uint64
	at, digits := 0, 0
	for _, r := range s {
		if r == '.' {
			need(digits > 0 && at < parts-1)
			at, digits = at+1, 0
			continue
		}
		// Behind a nought that stands ahead there may be no digit more.
		need(digits == 0 || n[at] > 0)
		n[at] = grown(n[at], r)
		digits++
	}
	need(at == parts-1 && digits > 0)
	return n
}

// grown is a number with one digit more, as long as no id's number is less.
func grown(n uint64, r rune) uint64 {
	need(r >= '0' && r <= '9')
	digit := uint64(r - '0')
	need(n <= (api.MaxTime-digit)/10)
	return 10*n + digit
}
