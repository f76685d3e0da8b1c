package frame

import "ecclesia/api"

const (
	maxFields = 1000
	// maxEach is how many fields one of * has at most.
	maxEach       = 40
	maxText       = 64
	signatureSize = 65
)

// span is from a least size to a greatest one.
type span struct{ least, most int }

// has says if a size is in a span.
func (s span) has(size int) bool { return s.least <= size && size <= s.most }

// bytes is how many bytes a field of a kind has.
func (k kind) bytes() span {
	switch k.sign {
	case hash:
		return span{api.Hash, api.Hash}
	case address:
		return span{api.Addr, api.Addr}
	case signature:
		return span{signatureSize, signatureSize}
	case text:
		return span{0, maxText}
	default:
		return span{}
	}
}

// fields is how many fields one of a kind has in it.
func (k kind) fields() span {
	switch k.sign {
	case group:
		return span{len(k.below), len(k.below)}
	case each:
		return span{0, maxEach}
	default:
		return span{}
	}
}

// fits says if a field fits a kind, whatever the fields in it are.
func (k kind) fits(f api.Field) bool {
	return (f.N == 0 || k.sign == number) && k.bytes().has(len(f.B)) && k.fields().has(len(f.L))
}

// left is how many more fields may be, behind a field and those in it, if these
// fit a kind, and so many may be; else below 0. It ends soon behind the first one
// that is too many, however many there are.
func left(k kind, f api.Field, room int) int {
	if !k.fits(f) {
		return -1
	}
	room--
	for i, kid := range f.L {
		if room = left(k.kid(i), kid, room); room < 0 {
			return room
		}
	}
	return room
}
