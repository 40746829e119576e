package script

import (
	"strconv"
	"strings"

	"gesso/api"
	"gesso/crc"
	"gesso/oplog"
	"gesso/runs"
	"gesso/world"
)

// Play is a script's transcript.
func Play(s api.Script) (string, api.Errno) {
	if e := Check(s); e != api.OK {
		return "", e
	}
	w, e := world.New(s.Wide, s.High, s.Sites)
	if e != api.OK {
		return "", e
	}
	var out strings.Builder
	for _, x := range s.Events {
		for _, o := range w.Do(x) {
			out.WriteString(lineOf(strconv.Itoa(int(o.Err)) + idText(o.Id)))
		}
	}
	for site := 1; site <= w.Sites(); site++ {
		out.WriteString(siteLine(w, site))
	}
	out.WriteString(serverLine(w))
	n := w.Net()
	out.WriteString(lineOf("net", strconv.Itoa(len(n.Parcels)), strconv.FormatUint(n.Lost, 10)))
	return out.String(), api.OK
}

// sumText is the sum of what is shown; of nothing: none.
func sumText(c api.Canvas, shown bool) string {
	b, e := runs.Canvas(c)
	if !shown || e != api.OK {
		return "none"
	}
	return strconv.FormatUint(uint64(crc.Sum(b)), 10)
}

// logTexts is the words of a log: its Folded, and its vector.
func logTexts(l api.Log) []string {
	v := oplog.Vector(l)
	counts := each(v[1:], func(n uint64) string { return strconv.FormatUint(n, 10) })
	return []string{strconv.FormatUint(l.Folded, 10), strings.Join(counts, ",")}
}

// siteLine is the line of a site.
func siteLine(w *world.World, site int) string {
	seat := w.Seat(site)
	words := append([]string{"site"}, numbers(site, seat.Phase)...)
	words = append(words, logTexts(seat.Log)...)
	return lineOf(append(words, sumText(w.Shows(site)))...)
}

// serverLine is the line of the server.
func serverLine(w *world.World) string {
	if !w.Up() {
		return lineOf("server", "down")
	}
	k := w.Kept()
	words := append([]string{"server", strconv.FormatUint(k.Epoch, 10)}, logTexts(k.Log)...)
	return lineOf(append(words, sumText(w.Serves()))...)
}
