package block_test

import (
	"encoding/binary"
	"encoding/hex"
	"math/big"
	"slices"
	"strings"

	"ecclesia/api"
	"ecclesia/header"
	"ecclesia/keccak"
	"ecclesia/state"
	"ecclesia/tx"
	"ecclesia/u256"
)

// What the chapter says, with lists that are laid byte by byte; headers, transfers
// and accounts by their own packages, where they may be.

// hexed are the bytes that are written in hexadecimal.
func hexed(digits string) string {
	made, err := hex.DecodeString(digits)
	if err != nil {
		panic(digits)
	}
	return string(made)
}

// ahead is what stands ahead of so many bytes in a record, of bytes or of a list.
func ahead(first byte, size int) string {
	if size < 56 {
		return string([]byte{first + byte(size)})
	}
	digits := strings.TrimLeft(string(binary.BigEndian.AppendUint64(nil, uint64(size))), "\x00")
	return string([]byte{first + 55 + byte(len(digits))}) + digits
}

// plainText is bytes in a record.
func plainText(s string) string {
	if len(s) == 1 && s[0] < 0x80 {
		return s
	}
	return ahead(0x80, len(s)) + s
}

// plainNumber is a number in a record.
func plainNumber(n uint64) string {
	return plainText(strings.TrimLeft(string(binary.BigEndian.AppendUint64(nil, n)), "\x00"))
}

// plainList is a list in a record.
func plainList(inner ...string) string {
	all := strings.Join(inner, "")
	return ahead(0xC0, len(all)) + all
}

// plainTexts is a list of bytes in a record.
func plainTexts(l []string) string {
	var inner []string
	for _, one := range l {
		inner = append(inner, plainText(one))
	}
	return plainList(inner...)
}

// plainSig are a signature's 65 bytes, also of many that may not be.
func plainSig(s api.Sig) string { return u256.Bytes(s.R) + u256.Bytes(s.S) + string([]byte{byte(s.V)}) }

// plainTx are a transfer's bytes, also of many that may not be.
func plainTx(t api.Tx) string {
	return plainList(plainText(t.To), plainNumber(t.Amount), plainNumber(t.Nonce), plainText(plainSig(t.Sig)))
}

// plainHeader are a header's bytes, also of many that may not be.
func plainHeader(h api.Header) string {
	add := "\x80"
	if h.Add {
		add = "\x01"
	}
	var seals []string
	for _, one := range h.Seals {
		seals = append(seals, plainSig(one))
	}
	return plainList(plainText(h.Parent), plainNumber(h.Height), plainText(h.Root), plainText(h.Txs), plainText(h.Proposer), plainText(h.Vanity),
		plainTexts(h.Validators), plainText(h.Vote), add, plainNumber(h.Round), plainTexts(seals))
}

// plainParts are what a block's list has in it, also of many that may not be.
func plainParts(b api.Block) []string {
	made := []string{plainHeader(b.Header)}
	for _, one := range b.Txs {
		made = append(made, plainTx(one))
	}
	return made
}

// plainRecord are a block's bytes, also of many that may not be.
func plainRecord(b api.Block) string { return plainTexts(plainParts(b)) }

// plainSum is what Sum answers.
func plainSum(l []api.Tx) (string, api.Errno) {
	if slices.ContainsFunc(l, func(one api.Tx) bool { return !tx.Right(one) }) {
		return "", api.ErrArg
	}
	var all []byte
	for _, one := range l {
		all = append(all, keccak.Sum(plainTx(one))...)
	}
	return keccak.Sum(string(all)), api.OK
}

// plainRun is what Run answers: the first transfer's row, and what the others make
// of that.
func plainRun(row []api.Account, l []api.Tx, proposer string) ([]api.Account, api.Errno) {
	if !state.Right(row) {
		return nil, api.ErrArg
	}
	if len(l) == 0 {
		return row, api.OK
	}
	next, errno := state.Apply(row, l[0], proposer)
	if errno != api.OK {
		return nil, errno
	}
	return plainRun(next, l[1:], proposer)
}

// plainRight says if a block may be.
func plainRight(b api.Block) bool {
	if len(b.Txs) > 4 {
		return false
	}
	sum, errno := plainSum(b.Txs)
	return errno == api.OK && header.Right(b.Header) && sum == b.Header.Txs
}

// plainBytes is what Bytes answers.
func plainBytes(b api.Block) (string, api.Errno) {
	if !plainRight(b) {
		return "", api.ErrArg
	}
	return plainRecord(b), api.OK
}

// cut is the first item of a record, with what is in it, and what is behind it;
// it is generous, as what is read is written again.
func cut(s string) (inner, rest string, is bool) {
	first := int(s[0])
	if first < 0x80 {
		return s[:1], s[1:], true
	}
	size := (first - 0x80) % 0x40
	s = s[1:]
	if size > 55 {
		digits := size - 55
		if digits > 2 || len(s) < digits {
			return "", "", false
		}
		size = int(new(big.Int).SetBytes([]byte(s[:digits])).Int64())
		s = s[digits:]
	}
	if len(s) < size {
		return "", "", false
	}
	return s[:size], s[size:], true
}

// plainRead is what Read answers.
func plainRead(s string) (b api.Block, errno api.Errno) {
	if s == "" {
		return api.Block{}, api.ErrForm
	}
	inner, rest, is := cut(s)
	if !is || rest != "" {
		return api.Block{}, api.ErrForm
	}
	for at := 0; inner != ""; at++ {
		var one string
		if one, inner, is = cut(inner); !is {
			return api.Block{}, api.ErrForm
		}
		if at == 0 {
			b.Header, errno = header.Read(one)
		} else {
			b.Txs = append(b.Txs, api.Tx{})
			b.Txs[at-1], errno = tx.Read(one)
		}
		if errno != api.OK {
			return api.Block{}, api.ErrForm
		}
	}
	if made, e := plainBytes(b); e != api.OK || made != s {
		return api.Block{}, api.ErrForm
	}
	return b, api.OK
}
