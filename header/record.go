package header

import (
	"ecclesia/api"
	"ecclesia/sign"
)

// writer lays fields, one behind the other.
type writer struct{ laid []api.Field }

func (w *writer) lay(f api.Field) { w.laid = append(w.laid, f) }

func (w *writer) number(n uint64) { w.lay(api.Field{N: n}) }

func (w *writer) text(s string) { w.lay(api.Field{B: s}) }

func (w *writer) flag(is bool) {
	if is {
		w.number(1)
	} else {
		w.number(0)
	}
}

// seal lays a signature that may be, so that it is never an error.
func (w *writer) seal(s api.Sig) {
	made, _ := sign.Bytes(s)
	w.text(made)
}

func (w *writer) texts(l []string) {
	var inner writer
	each(l, inner.text)
	w.lay(api.Field{L: inner.laid})
}

func (w *writer) seals(l []api.Sig) {
	var inner writer
	each(l, inner.seal)
	w.lay(api.Field{L: inner.laid})
}

// each hands all of a list to what lays one of them.
func each[T any](l []T, lay func(T)) {
	for _, one := range l {
		lay(one)
	}
}

// fields are those of a header that may be.
func fields(h api.Header) []api.Field {
	var w writer
	w.text(h.Parent)
	w.number(h.Height)
	w.text(h.Root)
	w.text(h.Txs)
	w.text(h.Proposer)
	w.text(h.Vanity)
	w.texts(h.Validators)
	w.text(h.Vote)
	w.flag(h.Add)
	w.number(h.Round)
	w.seals(h.Seals)
	return w.laid
}

// headerOf is the header of fields that fit the form; where a seal may not be, it
// has an empty one, which may not be either.
func headerOf(l []api.Field) api.Header {
	h := api.Header{
		Parent: l[0].B, Height: l[1].N, Root: l[2].B, Txs: l[3].B, Proposer: l[4].B, Vanity: l[5].B,
		Vote: l[7].B, Add: l[8].N != 0, Round: l[9].N,
	}
	for _, one := range l[6].L {
		h.Validators = append(h.Validators, one.B)
	}
	for _, one := range l[10].L {
		seal, _ := sign.From(one.B)
		h.Seals = append(h.Seals, seal)
	}
	return h
}
