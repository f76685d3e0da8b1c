package header_test

import (
	"encoding/binary"
	"encoding/hex"
	"math/big"
	"slices"
	"strings"

	"ecclesia/api"
	"ecclesia/keccak"
	"ecclesia/u256"
)

// What the chapter says, with records that are laid byte by byte, and signatures
// that are held against the library's numbers.

// order is n, how many secrets there are and one.
var order = large("FFFFFFFFFFFFFFFFFFFFFFFFFFFFFFFEBAAEDCE6AF48A03BBFD25E8CD0364141")

// half is n / 2 downwards.
var half = new(big.Int).Rsh(order, 1)

// large is a number that is written in hexadecimal.
func large(digits string) *big.Int { return new(big.Int).SetBytes([]byte(hexed(digits))) }

// hexed are the bytes that are written in hexadecimal.
func hexed(digits string) string {
	made, err := hex.DecodeString(digits)
	if err != nil {
		panic(digits)
	}
	return string(made)
}

// narrow is a number of the library's as an api.U.
func narrow(a *big.Int) api.U {
	made, errno := u256.From(string(a.Bytes()))
	if errno != api.OK {
		panic(a.String())
	}
	return made
}

// wide is the way back.
func wide(a api.U) *big.Int { return new(big.Int).SetBytes([]byte(u256.Bytes(a))) }

// plainMay says if a signature may be.
func plainMay(s api.Sig) bool {
	r, low := wide(s.R), wide(s.S)
	return r.Sign() > 0 && r.Cmp(order) < 0 && low.Sign() > 0 && low.Cmp(half) <= 0 && (s.V == 0 || s.V == 1)
}

// plainSet says if validators may be, with addresses as numbers, which rise as
// the bytes do.
func plainSet(set []string) bool {
	last := big.NewInt(-1)
	for _, one := range set {
		n := new(big.Int).SetBytes([]byte(one))
		if len(one) != 20 || n.Cmp(last) <= 0 {
			return false
		}
		last = n
	}
	return 1 <= len(set) && len(set) <= 16
}

// plainRight says if a header may be.
func plainRight(h api.Header) bool {
	for _, c := range []struct {
		text        string
		least, most int
	}{{h.Parent, 32, 32}, {h.Root, 32, 32}, {h.Txs, 32, 32}, {h.Proposer, 20, 20}, {h.Vanity, 0, 8}} {
		if len(c.text) < c.least || len(c.text) > c.most {
			return false
		}
	}
	switch {
	case !plainSet(h.Validators):
		return false
	case len(h.Vote) != 20 && (len(h.Vote) != 0 || h.Add):
		return false
	case len(h.Seals) > 16:
		return false
	}
	return !slices.ContainsFunc(h.Seals, func(one api.Sig) bool { return !plainMay(one) })
}

// plainText is bytes in a record.
func plainText(s string) string {
	if len(s) == 1 && s[0] < 0x80 {
		return s
	}
	return ahead(0x80, len(s)) + s
}

// ahead is what stands ahead of so many bytes in a record, of bytes or of a list.
func ahead(first byte, size int) string {
	if size < 56 {
		return string([]byte{first + byte(size)})
	}
	digits := strings.TrimLeft(string(binary.BigEndian.AppendUint64(nil, uint64(size))), "\x00")
	return string([]byte{first + 55 + byte(len(digits))}) + digits
}

// plainNumber is a number in a record.
func plainNumber(n uint64) string {
	return plainText(strings.TrimLeft(string(binary.BigEndian.AppendUint64(nil, n)), "\x00"))
}

// plainList is a list in a record.
func plainList(inner ...string) string {
	all := strings.Join(inner, "")
	return ahead(0xC0, len(all)) + all
}

// plainTexts is a list of bytes in a record.
func plainTexts(l []string) string {
	var inner []string
	for _, one := range l {
		inner = append(inner, plainText(one))
	}
	return plainList(inner...)
}

// plainSig are a signature's 65 bytes, also of many that may not be.
func plainSig(s api.Sig) string { return u256.Bytes(s.R) + u256.Bytes(s.S) + string([]byte{byte(s.V)}) }

// plainSigs are signatures as bytes.
func plainSigs(l []api.Sig) []string {
	var made []string
	for _, one := range l {
		made = append(made, plainSig(one))
	}
	return made
}

// plainParts are the items of a header's record, also of one that may not be.
func plainParts(h api.Header) []string {
	add := "\x80"
	if h.Add {
		add = "\x01"
	}
	return []string{plainText(h.Parent), plainNumber(h.Height), plainText(h.Root), plainText(h.Txs), plainText(h.Proposer), plainText(h.Vanity),
		plainTexts(h.Validators), plainText(h.Vote), add, plainNumber(h.Round), plainTexts(plainSigs(h.Seals))}
}

// plainRecord is the record of a header, also of one that may not be.
func plainRecord(h api.Header) string { return plainList(plainParts(h)...) }

// plainBytes is what Bytes answers.
func plainBytes(h api.Header) (string, api.Errno) {
	if !plainRight(h) {
		return "", api.ErrArg
	}
	return plainRecord(h), api.OK
}

// plainSeal is what Seal answers.
func plainSeal(h api.Header) (string, api.Errno) {
	if !plainRight(h) {
		return "", api.ErrArg
	}
	parts := plainParts(h)
	return keccak.Sum(plainList(append(parts[:10], "\xC0")...)), api.OK
}

// plainId is what Id answers.
func plainId(h api.Header) (string, api.Errno) {
	if !plainRight(h) {
		return "", api.ErrArg
	}
	parts := plainParts(h)
	return keccak.Sum(plainList(append(parts[:9], "\x80", "\xC0")...)), api.OK
}

// plainTurn is what Turn answers.
func plainTurn(h api.Header) (string, api.Errno) {
	id, errno := plainId(h)
	if errno != api.OK {
		return "", errno
	}
	return keccak.Sum(plainList("\x84turn", "\xA0"+id, plainNumber(h.Round))), api.OK
}

// cut is the first item of a record, with what is in it, and what is behind it;
// it is generous, as what is read is written again.
func cut(s string) (list bool, inner, rest string, is bool) {
	if s == "" {
		return false, "", "", false
	}
	first := int(s[0])
	if first < 0x80 {
		return false, s[:1], s[1:], true
	}
	list = first >= 0xC0
	size := (first - 0x80) % 0x40
	s = s[1:]
	if size > 55 {
		digits := size - 55
		if digits > 2 || len(s) < digits {
			return false, "", "", false
		}
		size = int(new(big.Int).SetBytes([]byte(s[:digits])).Int64())
		s = s[digits:]
	}
	if len(s) < size {
		return false, "", "", false
	}
	return list, s[:size], s[size:], true
}

// all are the items that bytes are, one behind the other.
func all(s string) (items []string, is bool) {
	for s != "" {
		_, inner, rest, is := cut(s)
		if !is {
			return nil, false
		}
		items, s = append(items, inner), rest
	}
	return items, true
}

// plainRead is what Read answers.
func plainRead(s string) (h api.Header, errno api.Errno) {
	list, inner, rest, is := cut(s)
	if !is || !list || rest != "" {
		return api.Header{}, api.ErrForm
	}
	l, is := all(inner)
	if !is || len(l) != 11 {
		return api.Header{}, api.ErrForm
	}
	number := func(digits string) uint64 { return new(big.Int).SetBytes([]byte(digits)).Uint64() }
	h = api.Header{Parent: l[0], Height: number(l[1]), Root: l[2], Txs: l[3], Proposer: l[4], Vanity: l[5], Vote: l[7], Add: l[8] != "", Round: number(l[9])}
	h.Validators, is = all(l[6])
	seals, both := all(l[10])
	for _, one := range seals {
		if len(one) != 65 {
			return api.Header{}, api.ErrForm
		}
		h.Seals = append(h.Seals, api.Sig{R: narrow(large(hex.EncodeToString([]byte(one[:32])))), S: narrow(large(hex.EncodeToString([]byte(one[32:64])))), V: int(one[64])})
	}
	if made, e := plainBytes(h); !is || !both || e != api.OK || made != s {
		return api.Header{}, api.ErrForm
	}
	return h, api.OK
}
