package sign_test

import (
	"crypto/hmac"
	"crypto/sha256"
	"math/big"
	"strings"

	"ecclesia/keccak"
)

// What the chapter says, step by step as it says it, by the library's numbers
// and its sums with a key.

// plain is a point of the curve; the zero point has none of the numbers.
type plain struct{ x, y *big.Int }

// signed is a signature.
type signed struct {
	r, s *big.Int
	v    int
}

// number is one that is written in hexadecimal.
func number(digits string) *big.Int {
	made, ok := new(big.Int).SetString(digits, 16)
	if !ok {
		panic(digits)
	}
	return made
}

var (
	prime = number("FFFFFFFFFFFFFFFFFFFFFFFFFFFFFFFFFFFFFFFFFFFFFFFFFFFFFFFEFFFFFC2F")
	order = number("FFFFFFFFFFFFFFFFFFFFFFFFFFFFFFFEBAAEDCE6AF48A03BBFD25E8CD0364141")
	half  = new(big.Int).Rsh(order, 1)
	base  = plain{
		number("79BE667EF9DCBBAC55A06295CE870B07029BFCDB2DCE28D959F2815B16F81798"),
		number("483ADA7726A3C4655DA4FBFC0E1108A8FD17B448A68554199C47D08FFB10D4B8"),
	}
)

// plainAdd adds two points.
func plainAdd(p, q plain) plain {
	switch {
	case p.x == nil:
		return q
	case q.x == nil:
		return p
	case p.x.Cmp(q.x) == 0 && p.y.Cmp(q.y) != 0:
		return plain{}
	}
	above, below := new(big.Int).Sub(q.y, p.y), new(big.Int).Sub(q.x, p.x)
	if p.x.Cmp(q.x) == 0 {
		above = new(big.Int).Mul(big.NewInt(3), new(big.Int).Mul(p.x, p.x))
		below = new(big.Int).Add(p.y, p.y)
	}
	l := new(big.Int).Mul(above, new(big.Int).ModInverse(below.Mod(below, prime), prime))
	x := new(big.Int).Mul(l, l)
	x.Mod(x.Sub(x.Sub(x, p.x), q.x), prime)
	y := new(big.Int).Sub(p.x, x)
	return plain{x, y.Mod(y.Sub(y.Mul(y, l), p.y), prime)}
}

// plainTimes adds a point to the zero point n times.
func plainTimes(p plain, n *big.Int) plain {
	var total plain
	for i := n.BitLen() - 1; i >= 0; i-- {
		total = plainAdd(total, total)
		if n.Bit(i) == 1 {
			total = plainAdd(total, p)
		}
	}
	return total
}

// plainLift is the point of that X whose Y leaves v, divided by 2.
func plainLift(x *big.Int, v int) (plain, bool) {
	square := new(big.Int).Exp(x, big.NewInt(3), prime)
	y := new(big.Int).ModSqrt(square.Mod(square.Add(square, big.NewInt(7)), prime), prime)
	if y == nil {
		return plain{}, false
	}
	if int(y.Bit(0)) != v {
		y.Sub(prime, y)
	}
	return plain{x, y}, true
}

// wide are a number's 32 bytes.
func wide(a *big.Int) string { return string(a.FillBytes(make([]byte, 32))) }

// plainOf is a point's address.
func plainOf(p plain) string { return keccak.Sum(wide(p.x) + wide(p.y))[12:] }

// plainNumber is a digest's number.
func plainNumber(digest string) *big.Int {
	made := new(big.Int).SetBytes([]byte(digest))
	return made.Mod(made, order)
}

// plainNonces answers one nonce after the other.
func plainNonces(secret, number *big.Int) func() *big.Int {
	mac := func(key string, parts ...string) string {
		made := hmac.New(sha256.New, []byte(key))
		made.Write([]byte(strings.Join(parts, "")))
		return string(made.Sum(nil))
	}
	x, h := wide(secret), wide(number)
	v, k := strings.Repeat("\x01", 32), strings.Repeat("\x00", 32)
	k = mac(k, v, "\x00", x, h)
	v = mac(k, v)
	k = mac(k, v, "\x01", x, h)
	v = mac(k, v)
	return func() *big.Int {
		v = mac(k, v)
		made := new(big.Int).SetBytes([]byte(v))
		k = mac(k, v, "\x00")
		v = mac(k, v)
		return made
	}
}

// plainBy is the signature that a nonce makes.
func plainBy(secret, number, nonce *big.Int) (signed, bool) {
	if nonce.Sign() == 0 || nonce.Cmp(order) >= 0 {
		return signed{}, false
	}
	q := plainTimes(base, nonce)
	if q.x.Cmp(order) >= 0 {
		return signed{}, false
	}
	s := new(big.Int).Mul(q.x, secret)
	s.Mod(s.Mul(s.Add(s, number), new(big.Int).ModInverse(nonce, order)), order)
	if q.x.Sign() == 0 || s.Sign() == 0 {
		return signed{}, false
	}
	v := int(q.y.Bit(0))
	if s.Cmp(half) > 0 {
		s, v = s.Sub(order, s), 1-v
	}
	return signed{q.x, s, v}, true
}

// plainSign is a secret's signature of a digest.
func plainSign(secret *big.Int, digest string) signed {
	number := plainNumber(digest)
	next := plainNonces(secret, number)
	for {
		if made, ok := plainBy(secret, number, next()); ok {
			return made
		}
	}
}

// plainRecover is the address to which a signature that may be leads, if it
// leads to one.
func plainRecover(digest string, s signed) (string, bool) {
	q, ok := plainLift(s.r, s.v)
	if !ok {
		return "", false
	}
	both := plainAdd(plainTimes(q, s.s), plainTimes(base, new(big.Int).Sub(order, plainNumber(digest))))
	if both.x == nil {
		return "", false
	}
	return plainOf(plainTimes(both, new(big.Int).ModInverse(s.r, order))), true
}

// plainMay tells whether a signature may be.
func plainMay(s signed) bool {
	one := big.NewInt(1)
	return s.r.Cmp(one) >= 0 && s.r.Cmp(order) < 0 && s.s.Cmp(one) >= 0 && s.s.Cmp(half) <= 0 && (s.v == 0 || s.v == 1)
}

// plainBytes are a signature's bytes, also of many that may not be.
func plainBytes(s signed) string { return wide(s.r) + wide(s.s) + string([]byte{byte(s.v)}) }
