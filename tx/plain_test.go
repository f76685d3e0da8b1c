package tx_test

import (
	"encoding/binary"
	"encoding/hex"
	"math/big"
	"strings"

	"ecclesia/api"
	"ecclesia/keccak"
	"ecclesia/sign"
	"ecclesia/u256"
)

// What the chapter says, with records that are laid byte by byte, and signatures
// that are held against the library's numbers.

// order is n, how many secrets there are and one.
var order = large("FFFFFFFFFFFFFFFFFFFFFFFFFFFFFFFEBAAEDCE6AF48A03BBFD25E8CD0364141")

// half is n / 2 downwards.
var half = new(big.Int).Rsh(order, 1)

// large is a number that is written in hexadecimal.
func large(digits string) *big.Int { return new(big.Int).SetBytes([]byte(hexed(digits))) }

// hexed are the bytes that are written in hexadecimal.
func hexed(digits string) string {
	made, err := hex.DecodeString(digits)
	if err != nil {
		panic(digits)
	}
	return string(made)
}

// narrow is a number of the library's as an api.U.
func narrow(a *big.Int) api.U {
	made, errno := u256.From(string(a.Bytes()))
	if errno != api.OK {
		panic(a.String())
	}
	return made
}

// wide is the way back.
func wide(a api.U) *big.Int { return new(big.Int).SetBytes([]byte(u256.Bytes(a))) }

// plainMay says if a signature may be.
func plainMay(s api.Sig) bool {
	r, low := wide(s.R), wide(s.S)
	return r.Sign() > 0 && r.Cmp(order) < 0 && low.Sign() > 0 && low.Cmp(half) <= 0 && (s.V == 0 || s.V == 1)
}

// plainRight says if a transfer may be.
func plainRight(t api.Tx) bool { return len(t.To) == 20 && plainMay(t.Sig) }

// plainNumber is a number in a record.
func plainNumber(n uint64) string {
	digits := strings.TrimLeft(string(binary.BigEndian.AppendUint64(nil, n)), "\x00")
	if len(digits) == 1 && digits[0] < 0x80 {
		return digits
	}
	return string([]byte{0x80 + byte(len(digits))}) + digits
}

// plainSigned is the record of what is signed, of an address of 20 bytes.
func plainSigned(t api.Tx) string {
	fields := "\x82tx\x94" + t.To + plainNumber(t.Amount) + plainNumber(t.Nonce)
	return string([]byte{0xC0 + byte(len(fields))}) + fields
}

// plainSig are a signature's 65 bytes, also of many that may not be.
func plainSig(s api.Sig) string { return u256.Bytes(s.R) + u256.Bytes(s.S) + string([]byte{byte(s.V)}) }

// plainRecord is the record of a whole transfer, also of many that may not be:
// their addresses have 55 bytes at most.
func plainRecord(to, amount, nonce, sig string) string {
	fields := string([]byte{0x80 + byte(len(to))}) + to + amount + nonce + "\xB8" + string([]byte{byte(len(sig))}) + sig
	return "\xF8" + string([]byte{byte(len(fields))}) + fields
}

// plainBytes is what Bytes answers.
func plainBytes(t api.Tx) (string, api.Errno) {
	if !plainRight(t) {
		return "", api.ErrArg
	}
	return plainRecord(t.To, plainNumber(t.Amount), plainNumber(t.Nonce), plainSig(t.Sig)), api.OK
}

// plainDigest is what Digest answers.
func plainDigest(t api.Tx) (string, api.Errno) {
	if len(t.To) != 20 {
		return "", api.ErrArg
	}
	return keccak.Sum(plainSigned(t)), api.OK
}

// plainSum is what Sum answers.
func plainSum(t api.Tx) (string, api.Errno) {
	s, errno := plainBytes(t)
	if errno != api.OK {
		return "", errno
	}
	return keccak.Sum(s), api.OK
}

// plainSign is what Sign answers.
func plainSign(secret api.U, to string, amount, nonce uint64) (api.Tx, api.Errno) {
	if x := wide(secret); len(to) != 20 || x.Sign() == 0 || x.Cmp(order) >= 0 {
		return api.Tx{}, api.ErrArg
	}
	t := api.Tx{To: to, Amount: amount, Nonce: nonce}
	made, errno := sign.Sign(secret, keccak.Sum(plainSigned(t)))
	t.Sig = made
	return t, errno
}

// plainSender is what Sender answers.
func plainSender(t api.Tx) (string, api.Errno) {
	if !plainRight(t) {
		return "", api.ErrArg
	}
	return sign.Recover(keccak.Sum(plainSigned(t)), t.Sig)
}

// cutNumber is the number that some bytes of a record begin with, and what is
// behind it.
func cutNumber(s string) (n uint64, rest string, is bool) {
	for size := 1; size <= 9 && size <= len(s); size++ {
		n = n << 8
		if size > 1 || s[0] < 0x80 {
			n += uint64(s[size-1])
		}
		if s[:size] == plainNumber(n) {
			return n, s[size:], true
		}
	}
	return 0, "", false
}

// plainRead is what Read answers.
func plainRead(s string) (t api.Tx, errno api.Errno) {
	whole := s
	if len(s) < 23 {
		return api.Tx{}, api.ErrForm
	}
	t.To, s = s[3:23], s[23:]
	var one, other bool
	t.Amount, s, one = cutNumber(s)
	t.Nonce, s, other = cutNumber(s)
	if !one || !other || len(s) != 67 {
		return api.Tx{}, api.ErrForm
	}
	t.Sig = api.Sig{R: narrow(new(big.Int).SetBytes([]byte(s[2:34]))), S: narrow(new(big.Int).SetBytes([]byte(s[34:66]))), V: int(s[66])}
	if made, e := plainBytes(t); e != api.OK || made != whole {
		return api.Tx{}, api.ErrForm
	}
	return t, api.OK
}
