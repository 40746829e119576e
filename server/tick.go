package server

import (
	"gesso/api"
	"gesso/disk"
	"gesso/frontier"
	"gesso/oplog"
	"gesso/store"
)

// Tick lets it sync, take, fold, save and send, and tells what came of it.
func (s *Server) Tick() (t api.Turn, e api.Errno) {
	defer func() { e = told(recover()) }()
	s.needUp()
	var turn api.Turn
	steps := [...]func(){
		s.sync,
		func() { turn.Took = s.up.take() },
		func() { turn.Folded = s.foldIfReady() },
		s.saveIfLong,
		func() { turn.Parcels = s.up.sends() },
	}
	for _, step := range steps {
		step()
	}
	return turn, api.OK
}

// foldIfReady folds to what is proposed, if all have promised; it tells the time, or 0.
func (s *Server) foldIfReady() uint64 {
	asked, ready := frontier.Ready(s.up.front, oplog.Vector(s.up.Log))
	if !ready {
		return 0
	}
	f := api.Fact{Kind: api.FcFold, Time: s.up.front.Proposed, By: asked}
	s.lay(f)
	s.sync()
	s.up.fold(f)
	return f.Time
}

// saveIfLong saves what is kept, if the facts behind the last save are many.
func (s *Server) saveIfLong() {
	second := 2*disk.Head(s.disk) + 1
	if disk.Size(s.disk, second) > api.SaveBytes {
		s.keep(store.Save(s.disk, s.up.kept))
	}
}
