package msg_test

import (
	"encoding/binary"
	"encoding/hex"
	"math/big"
	"strings"

	"ecclesia/api"
	"ecclesia/block"
	"ecclesia/keccak"
	"ecclesia/sign"
	"ecclesia/u256"
)

// What the chapter says, with records that are laid byte by byte, and signatures
// that are held against the library's numbers; blocks by their own package.

// order is n, how many secrets there are and one.
var order = large("FFFFFFFFFFFFFFFFFFFFFFFFFFFFFFFEBAAEDCE6AF48A03BBFD25E8CD0364141")

// half is n / 2 downwards.
var half = new(big.Int).Rsh(order, 1)

// large is a number that is written in hexadecimal.
func large(digits string) *big.Int { return new(big.Int).SetBytes([]byte(hexed(digits))) }

// hexed are the bytes that are written in hexadecimal.
func hexed(digits string) string {
	made, err := hex.DecodeString(digits)
	if err != nil {
		panic(digits)
	}
	return string(made)
}

// narrow is a number of the library's as an api.U.
func narrow(a *big.Int) api.U {
	made, errno := u256.From(string(a.Bytes()))
	if errno != api.OK {
		panic(a.String())
	}
	return made
}

// wide is the way back.
func wide(a api.U) *big.Int { return new(big.Int).SetBytes([]byte(u256.Bytes(a))) }

// plainMay says if a signature may be.
func plainMay(s api.Sig) bool {
	r, low := wide(s.R), wide(s.S)
	return r.Sign() > 0 && r.Cmp(order) < 0 && low.Sign() > 0 && low.Cmp(half) <= 0 && (s.V == 0 || s.V == 1)
}

// bare says if a note is a change that tells of no block.
func bare(n api.Note) bool { return n.Kind == 4 && n.Prepared == 0 }

// plainWell says if a note may be, but for its signature.
func plainWell(n api.Note) bool {
	size, most := 32, uint64(0)
	if bare(n) {
		size = 0
	}
	if n.Kind == 4 {
		most = n.Round
	}
	return strings.ContainsRune("\x01\x02\x03\x04", rune(min(n.Kind, 5))) && len(n.Id) == size && !(n.Prepared > most)
}

// plainRight says if a note may be.
func plainRight(n api.Note) bool { return plainWell(n) && plainMay(n.Sig) }

// plainNotes says if so many notes of a kind may come along.
func plainNotes(l []api.Note, kind uint64, most int) bool {
	right := 0
	for _, one := range l[:min(most, len(l))] {
		if one.Kind == kind && plainRight(one) {
			right++
		}
	}
	return right == len(l)
}

// plainWhole says if a message may be: what comes along, kind by kind.
func plainWhole(m api.Msg) bool {
	if !plainRight(m.Note) {
		return false
	}
	_, errno := block.Read(m.Block)
	told := errno == api.OK
	switch m.Note.Kind {
	case 1:
		return m.Seal == api.Sig{} && told && plainNotes(m.Changes, 4, 16) && plainNotes(m.Prepares, 2, 16)
	case 2:
		return m.Seal == api.Sig{} && len(m.Block) == 0 && len(m.Changes) == 0 && len(m.Prepares) == 0
	case 3:
		return plainMay(m.Seal) && len(m.Block) == 0 && len(m.Changes) == 0 && len(m.Prepares) == 0
	}
	if m.Note.Prepared == 0 {
		return m.Seal == api.Sig{} && len(m.Block) == 0 && len(m.Changes) == 0 && len(m.Prepares) == 0
	}
	return m.Seal == api.Sig{} && told && len(m.Changes) == 0 && plainNotes(m.Prepares, 2, 16)
}

// ahead is what stands ahead of so many bytes in a record, of bytes or of a list.
func ahead(first byte, size int) string {
	if size < 56 {
		return string([]byte{first + byte(size)})
	}
	digits := strings.TrimLeft(string(binary.BigEndian.AppendUint64(nil, uint64(size))), "\x00")
	return string([]byte{first + 55 + byte(len(digits))}) + digits
}

// plainText is bytes in a record.
func plainText(s string) string {
	if len(s) == 1 && s[0] < 0x80 {
		return s
	}
	return ahead(0x80, len(s)) + s
}

// plainNumber is a number in a record.
func plainNumber(n uint64) string {
	return plainText(strings.TrimLeft(string(binary.BigEndian.AppendUint64(nil, n)), "\x00"))
}

// plainList is a list in a record.
func plainList(inner ...string) string {
	all := strings.Join(inner, "")
	return ahead(0xC0, len(all)) + all
}

// plainSig are a signature's 65 bytes, also of many that may not be.
func plainSig(s api.Sig) string { return u256.Bytes(s.R) + u256.Bytes(s.S) + string([]byte{byte(s.V)}) }

// plainFields are the items of a note's record, also of many that may not be.
func plainFields(n api.Note) []string {
	return []string{plainNumber(n.Kind), plainNumber(n.Height), plainNumber(n.Round), plainText(n.Id), plainNumber(n.Prepared), plainText(plainSig(n.Sig))}
}

// plainNote is a note's record, also of many that may not be.
func plainNote(n api.Note) string { return plainList(plainFields(n)...) }

// plainDigest is a note's digest.
func plainDigest(n api.Note) string {
	return keccak.Sum(plainList("\x84note", plainNumber(n.Kind), plainNumber(n.Height), plainNumber(n.Round), plainText(n.Id), plainNumber(n.Prepared)))
}

// plainRecords is the list of notes' records.
func plainRecords(l []api.Note) string {
	var inner []string
	for _, one := range l {
		inner = append(inner, plainText(plainNote(one)))
	}
	return plainList(inner...)
}

// plainParts are the items of a message, also of many that may not be.
func plainParts(m api.Msg) []string {
	seal := "\x80"
	if m.Seal != (api.Sig{}) {
		seal = plainText(plainSig(m.Seal))
	}
	return []string{plainText(plainNote(m.Note)), seal, plainText(m.Block), plainRecords(m.Changes), plainRecords(m.Prepares)}
}

// plainRecord are a message's bytes, also of many that may not be.
func plainRecord(m api.Msg) string { return plainList(plainParts(m)...) }

// plainBytes is what Bytes answers.
func plainBytes(m api.Msg) (string, api.Errno) {
	if !plainWhole(m) {
		return "", api.ErrArg
	}
	made := plainRecord(m)
	if len(made) > 4000 {
		return "", api.ErrLong
	}
	return made, api.OK
}

// plainSign is what Sign answers.
func plainSign(secret api.U, n api.Note) (api.Note, api.Errno) {
	if x := wide(secret); !plainWell(n) || x.Sign() == 0 || x.Cmp(order) >= 0 {
		return api.Note{}, api.ErrArg
	}
	made, errno := sign.Sign(secret, plainDigest(n))
	return api.Note{Kind: n.Kind, Height: n.Height, Round: n.Round, Id: n.Id, Prepared: n.Prepared, Sig: made}, errno
}

// plainSender is what Sender answers.
func plainSender(n api.Note) (string, api.Errno) {
	if !plainRight(n) {
		return "", api.ErrArg
	}
	return sign.Recover(plainDigest(n), n.Sig)
}

// cut is what is in the first item of a record, and what is behind it; it is
// generous, as what is read is written again.
func cut(s string) (inner, rest string, is bool) {
	first := int(s[0])
	if first < 0x80 {
		return s[:1], s[1:], true
	}
	size := (first - 0x80) % 0x40
	s = s[1:]
	if size > 55 {
		digits := size - 55
		if digits > 2 || len(s) < digits {
			return "", "", false
		}
		size = int(new(big.Int).SetBytes([]byte(s[:digits])).Int64())
		s = s[digits:]
	}
	if len(s) < size {
		return "", "", false
	}
	return s[:size], s[size:], true
}

// all are the items that bytes are, one behind the other.
func all(s string) (items []string, is bool) {
	for s != "" {
		var inner string
		if inner, s, is = cut(s); !is {
			return nil, false
		}
		items = append(items, inner)
	}
	return items, true
}

// list are the items of the list that bytes are.
func list(s string) ([]string, bool) {
	one, is := all(s)
	if !is || len(one) != 1 {
		return nil, false
	}
	return all(one[0])
}

// cutSig is the signature of 65 bytes.
func cutSig(s string) api.Sig {
	part := func(from, to int) api.U { return narrow(new(big.Int).SetBytes([]byte(s[from:to]))) }
	return api.Sig{R: part(0, 32), S: part(32, 64), V: int(s[64])}
}

// cutNote is the note of a record.
func cutNote(s string) (n api.Note, is bool) {
	l, is := list(s)
	if !is || len(l) != 6 || len(l[5]) != 65 {
		return api.Note{}, false
	}
	number := func(digits string) uint64 { return new(big.Int).SetBytes([]byte(digits)).Uint64() }
	return api.Note{Kind: number(l[0]), Height: number(l[1]), Round: number(l[2]), Id: l[3], Prepared: number(l[4]), Sig: cutSig(l[5])}, true
}

// cutNotes are the notes of records.
func cutNotes(s string) (made []api.Note, is bool) {
	l, is := all(s)
	for _, one := range l {
		n, may := cutNote(one)
		made, is = append(made, n), is && may
	}
	return made, is
}

// plainRead is what Read answers.
func plainRead(s string) (m api.Msg, errno api.Errno) {
	l, is := list(s)
	if !is || len(l) != 5 || len(l[1]) != 0 && len(l[1]) != 65 {
		return api.Msg{}, api.ErrForm
	}
	var may [3]bool
	m.Note, may[0] = cutNote(l[0])
	m.Block = l[2]
	m.Changes, may[1] = cutNotes(l[3])
	m.Prepares, may[2] = cutNotes(l[4])
	if l[1] != "" {
		m.Seal = cutSig(l[1])
	}
	if made, e := plainBytes(m); may != [3]bool{true, true, true} || e != api.OK || made != s {
		return api.Msg{}, api.ErrForm
	}
	return m, api.OK
}
