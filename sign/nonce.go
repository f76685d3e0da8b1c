package sign

import (
	"iter"
	"strings"

	"ecclesia/api"
	"ecclesia/field"
	"ecclesia/point"
	"ecclesia/sha"
	"ecclesia/u256"
)

// source is what a nonce comes from (RFC 6979): the chapter's K and V.
type source struct{ key, value string }

// stirred is what a source becomes by a text.
func (s source) stirred(text string) source {
	s.key = sha.Mac(s.key, s.value, text)
	s.value = sha.Mac(s.key, s.value)
	return s
}

// nonces are a secret's numbers for that of a digest, one behind the other: as
// many as are asked for.
func nonces(secret, number api.U) iter.Seq[api.U] {
	return func(yield func(api.U) bool) {
		both := u256.Bytes(secret) + u256.Bytes(number)
		s := source{
			key:   strings.Repeat("\x00", api.Hash),
			value: strings.Repeat("\x01", api.Hash),
		}
		s = s.stirred("\x00" + both).stirred("\x01" + both)
		for {
			s.value = sha.Mac(s.key, s.value)
			nonce, _ := u256.From(s.value)
			if !yield(nonce) {
				return
			}
			s = s.stirred("\x00")
		}
	}
}

// first is the signature of the first nonce that makes one.
func first(nonces iter.Seq[api.U], secret, number api.U) api.Sig {
	var made api.Sig
	for nonce := range nonces {
		if !within(nonce) {
			continue
		}
		q, _ := point.Times(point.Base(), nonce)
		found := false
		if made, found = by(q, nonce, secret, number); found {
			break
		}
	}
	return made
}

// by is the signature that a nonce makes, whose point is q, and whether it
// makes one.
func by(q api.Point, nonce, secret, number api.U) (api.Sig, bool) {
	// No point has X 0; an X from the order on is passed over, as R, which is
	// reduced, would tell another one.
	if !within(q.X) {
		return api.Sig{}, false
	}
	inverse, _ := field.Inv(nonce, order)
	s, odd := product(sum(number, product(q.X, secret)), inverse), u256.Bit(q.Y, 0)
	if s == (api.U{}) {
		return api.Sig{}, false
	}
	if !low(s) {
		// As the nonce that makes the order with this one had made it: its
		// point is the turned one.
		s, odd = turned(s), !odd
	}
	made := api.Sig{R: q.X, S: s}
	if odd {
		made.V = 1
	}
	return made, true
}
