package msg

import (
	"ecclesia/api"
	"ecclesia/frame"
	"ecclesia/keccak"
	"ecclesia/rlp"
	"ecclesia/sign"
)

// The forms of what is signed of a note, and of its record.
const (
	signedForm = "bnnnbn"
	recordForm = "nnnbns"
)

// label stands ahead in what is signed, so that it is signed as nothing else.
const label = "note"

// parts is how many items a message's bytes are a list of.
const parts = 5

// fields are a note's, but for its signature.
func fields(n api.Note) []api.Field {
	return []api.Field{{N: n.Kind}, {N: n.Height}, {N: n.Round}, {B: n.Id}, {N: n.Prepared}}
}

// digest is what is signed of a note that is well, so that it is never an error.
func digest(n api.Note) string {
	record, _ := frame.Write(signedForm, append([]api.Field{{B: label}}, fields(n)...))
	return keccak.Sum(record)
}

// record is that of a note that may be, so that it is never an error.
func record(n api.Note) string {
	made, _ := sign.Bytes(n.Sig)
	text, _ := frame.Write(recordForm, append(fields(n), api.Field{B: made}))
	return text
}

// noteOf is the note that has a record, or an empty one, which may not be, if none
// that may be has it.
func noteOf(text string) api.Note {
	l, errno := frame.Read(recordForm, text)
	if errno != api.OK {
		return api.Note{}
	}
	n := api.Note{Kind: l[0].N, Height: l[1].N, Round: l[2].N, Id: l[3].B, Prepared: l[4].N}
	n.Sig, _ = sign.From(l[5].B)
	return n
}

// itemOf is a message that may be, as an item.
func itemOf(m api.Msg) api.Item {
	// A seal that is zero may not be, and so has no bytes, as it should.
	seal, _ := sign.Bytes(m.Seal)
	return rlp.List(
		api.Item{Bytes: record(m.Note)},
		api.Item{Bytes: seal},
		api.Item{Bytes: m.Block},
		records(m.Changes),
		records(m.Prepares),
	)
}

// records is the list of notes' records.
func records(l []api.Note) api.Item {
	made := rlp.List()
	for _, one := range l {
		made.Kids = append(made.Kids, api.Item{Bytes: record(one)})
	}
	return made
}

// msgOf is the message that has these items as its parts, if there is one; else it
// is one that may not be, or has other ones.
func msgOf(kids []api.Item) api.Msg {
	m := api.Msg{
		Note:     noteOf(kids[0].Bytes),
		Block:    kids[2].Bytes,
		Changes:  notesOf(kids[3].Kids),
		Prepares: notesOf(kids[4].Kids),
	}
	m.Seal, _ = sign.From(kids[1].Bytes)
	return m
}

// notesOf are the notes that have these items as their records.
func notesOf(kids []api.Item) []api.Note {
	var made []api.Note
	for _, kid := range kids {
		made = append(made, noteOf(kid.Bytes))
	}
	return made
}
