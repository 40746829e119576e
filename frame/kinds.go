package frame

import (
	"iter"

	"gesso/api"
	"gesso/codec"
	"gesso/ident"
	"gesso/octet"
	"gesso/op"
	"gesso/vector"
)

// The fields of frames, a bit each.
const (
	useEpoch = 1 << iota
	useSite
	useSnap
	useIndex
	useMany
	useBytes
	useOps
	useVector
	useFloor
	useFloorSeq
	useProposed
	useTold
	useBy
)

// kind is a kind's word; which fields it uses; and whether they may stand together.
type kind struct {
	word  string
	uses  int
	mayBe func(f *api.Frame) bool
}

// kinds is all kinds, by their numbers.
func kinds() [api.FrState + 1]kind {
	return [...]kind{
		api.FrJoin:   {"join", useEpoch | useSite | useSnap | useIndex, func(f *api.Frame) bool { return f.Site > 0 }},
		api.FrChunk:  {"chunk", useEpoch | useSite | useSnap | useIndex | useMany | useBytes, func(f *api.Frame) bool { return f.Site > 0 && f.Index < f.Many }},
		api.FrOps:    {"ops", useEpoch | useSite | useOps, opsMayBe},
		api.FrStatus: {"status", useEpoch | useSite | useVector | useFloor | useFloorSeq, func(f *api.Frame) bool { return f.Site > 0 }},
		api.FrState:  {"state", useEpoch | useVector | useProposed | useTold | useBy, func(f *api.Frame) bool { return f.Proposed == 0 || f.Proposed > f.Told }},
	}
}

// kindOf is a kind, by its number.
func kindOf(number int) (kind, bool) {
	if number < api.FrJoin || number > api.FrState {
		return kind{}, false
	}
	return kinds()[number], true
}

// opsMayBe tells whether the operations rise, and are of the frame's site, if it has one.
func opsMayBe(f *api.Frame) bool {
	ids := make([]api.Id, 0, len(f.Ops))
	for _, o := range f.Ops {
		ids = append(ids, o.Id)
	}
	return ident.Rising(ids) && all(ids, func(i api.Id) bool { return f.Site == 0 || i.Site == f.Site })
}

// field is a field's name and bit; whether it is zero, and whether it is in order; and how it is laid, and read.
type field struct {
	name  string
	bit   int
	blank func(f *api.Frame) bool
	fits  func(f *api.Frame) bool
	lay   func(f *api.Frame) []byte
	read  func(r *reader)
}

// number is a number's bytes.
func number(width int, n uint64) []byte {
	b, _ := octet.Put(nil, width, n)
	return b
}

// time is a field that is a time, told by where it stands.
func time(name string, bit int, at func(f *api.Frame) *uint64) field {
	return field{name, bit,
		func(f *api.Frame) bool { return *at(f) == 0 },
		func(f *api.Frame) bool { return *at(f) <= api.MaxTime },
		func(f *api.Frame) []byte { return number(8, *at(f)) },
		func(r *reader) { *at(&r.Frame) = r.number(8) },
	}
}

// short is a field that is a byte, from 0 up to a greatest number.
func short(name string, bit, least, most int, at func(f *api.Frame) *int) field {
	return field{name, bit,
		func(f *api.Frame) bool { return *at(f) == 0 },
		func(f *api.Frame) bool { return *at(f) >= least && *at(f) <= most },
		func(f *api.Frame) []byte { return number(1, uint64(*at(f))) },
		func(r *reader) { *at(&r.Frame) = int(r.number(1)) },
	}
}

// front is a field that is a vector.
func front(name string, bit int, at func(f *api.Frame) *api.Vector) field {
	return field{name, bit,
		func(f *api.Frame) bool { return *at(f) == api.Vector{} },
		func(f *api.Frame) bool { return vector.Check(*at(f)) == api.OK },
		func(f *api.Frame) []byte { b, _ := codec.Vector(*at(f)); return b },
		func(r *reader) { *at(&r.Frame) = r.vector() },
	}
}

// fields is all fields, in the order in which they are laid.
func fields() [13]field {
	return [...]field{
		time("Epoch", useEpoch, func(f *api.Frame) *uint64 { return &f.Epoch }),
		short("Site", useSite, 0, api.MaxSites, func(f *api.Frame) *int { return &f.Site }),
		time("Snap", useSnap, func(f *api.Frame) *uint64 { return &f.Snap }),
		short("Index", useIndex, 0, api.MaxChunks, func(f *api.Frame) *int { return &f.Index }),
		short("Many", useMany, 1, api.MaxChunks, func(f *api.Frame) *int { return &f.Many }),
		{"Bytes", useBytes,
			func(f *api.Frame) bool { return len(f.Bytes) == 0 },
			func(f *api.Frame) bool { return len(f.Bytes) >= 1 && len(f.Bytes) <= api.ChunkBytes },
			func(f *api.Frame) []byte { b, _ := octet.Part(nil, f.Bytes); return b },
			func(r *reader) { r.Bytes = r.piece() }},
		{"Ops", useOps,
			func(f *api.Frame) bool { return len(f.Ops) == 0 },
			func(f *api.Frame) bool {
				return len(f.Ops) >= 1 && len(f.Ops) <= api.Batch && all(f.Ops, func(o api.Op) bool { return op.Check(o) == api.OK })
			},
			func(f *api.Frame) []byte { b, _ := codec.Ops(f.Ops...); return b },
			func(r *reader) { r.Ops = r.ops() }},
		front("Vector", useVector, func(f *api.Frame) *api.Vector { return &f.Vector }),
		time("Floor", useFloor, func(f *api.Frame) *uint64 { return &f.Floor }),
		time("FloorSeq", useFloorSeq, func(f *api.Frame) *uint64 { return &f.FloorSeq }),
		time("Proposed", useProposed, func(f *api.Frame) *uint64 { return &f.Proposed }),
		time("Told", useTold, func(f *api.Frame) *uint64 { return &f.Told }),
		front("By", useBy, func(f *api.Frame) *api.Vector { return &f.By }),
	}
}

// parts tells the fields that a kind uses, in order.
func parts(kind int) iter.Seq[field] {
	k, _ := kindOf(kind)
	return func(yield func(field) bool) {
		for _, x := range fields() {
			if k.uses&x.bit != 0 && !yield(x) {
				return
			}
		}
	}
}
