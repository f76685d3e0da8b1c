package msg

import (
	"ecclesia/api"
	"ecclesia/block"
	"ecclesia/sign"
)

// maxNotes is how many changes, and how many prepares, come along at most.
const maxNotes = 16

// well says if a note may be, but for its signature.
func well(n api.Note) bool {
	switch n.Kind {
	case api.MPropose, api.MPrepare, api.MCommit:
		return n.Prepared == 0 && len(n.Id) == api.Hash
	case api.MChange:
		if n.Prepared == 0 {
			return n.Id == ""
		}
		return n.Prepared <= n.Round && len(n.Id) == api.Hash
	default:
		return false
	}
}

// signature says if a signature may be.
func signature(s api.Sig) bool {
	_, errno := sign.Bytes(s)
	return errno == api.OK
}

// sealed says if a message's seal may be: commits alone have one.
func sealed(m api.Msg) bool {
	if m.Kind == api.MCommit {
		return signature(m.Seal)
	}
	return m.Seal == (api.Sig{})
}

// carries says if what comes along with a message may: with one that brings no
// block, nothing does.
func carries(m api.Msg) bool {
	changes, prepares := 0, 0
	switch {
	case m.Kind == api.MPropose:
		changes, prepares = maxNotes, maxNotes
	case m.Kind == api.MChange && m.Prepared > 0:
		prepares = maxNotes
	default:
		return m.Block == "" && len(m.Changes)+len(m.Prepares) == 0
	}
	if !notes(m.Changes, api.MChange, changes) || !notes(m.Prepares, api.MPrepare, prepares) {
		return false
	}
	_, errno := block.Read(m.Block)
	return errno == api.OK
}

// notes says if notes are of a kind, no more than so many, and may be.
func notes(l []api.Note, kind uint64, most int) bool {
	if len(l) > most {
		return false
	}
	for _, one := range l {
		if one.Kind != kind || !Right(one) {
			return false
		}
	}
	return true
}
