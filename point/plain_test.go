package point_test

import "math/big"

// What the chapter says, step by step as it says it, by the library's numbers.

// plain is a point of the curve; the zero point has none of the numbers.
type plain struct{ x, y *big.Int }

// number is one that is written in hexadecimal.
func number(digits string) *big.Int {
	made, ok := new(big.Int).SetString(digits, 16)
	if !ok {
		panic(digits)
	}
	return made
}

var (
	modulus  = number("FFFFFFFFFFFFFFFFFFFFFFFFFFFFFFFFFFFFFFFFFFFFFFFFFFFFFFFEFFFFFC2F")
	order    = number("FFFFFFFFFFFFFFFFFFFFFFFFFFFFFFFEBAAEDCE6AF48A03BBFD25E8CD0364141")
	plainTop = plain{
		number("79BE667EF9DCBBAC55A06295CE870B07029BFCDB2DCE28D959F2815B16F81798"),
		number("483ADA7726A3C4655DA4FBFC0E1108A8FD17B448A68554199C47D08FFB10D4B8"),
	}
)

// left is what a number leaves, modulo the prime, from 0 on.
func left(a *big.Int) *big.Int { return new(big.Int).Mod(a, modulus) }

// squareAt is what the square of Y has to leave at some X.
func squareAt(x *big.Int) *big.Int {
	cube := new(big.Int).Exp(x, big.NewInt(3), modulus)
	return left(cube.Add(cube, big.NewInt(7)))
}

// plainAdd adds two points as the chapter does.
func plainAdd(p, q plain) plain {
	switch {
	case p.x == nil:
		return q
	case q.x == nil:
		return p
	case p.x.Cmp(q.x) == 0 && left(new(big.Int).Add(p.y, q.y)).Sign() == 0:
		return plain{}
	}
	above, below := new(big.Int).Sub(q.y, p.y), new(big.Int).Sub(q.x, p.x)
	if p.x.Cmp(q.x) == 0 {
		above = new(big.Int).Mul(big.NewInt(3), new(big.Int).Mul(p.x, p.x))
		below = new(big.Int).Add(p.y, p.y)
	}
	l := new(big.Int).Mul(above, new(big.Int).ModInverse(left(below), modulus))
	x := new(big.Int).Mul(l, l)
	x = left(x.Sub(x.Sub(x, p.x), q.x))
	y := new(big.Int).Sub(p.x, x)
	return plain{x, left(y.Sub(y.Mul(y, l), p.y))}
}

// plainTimes adds a point to the zero point n times: by halves of n, as so
// many steps end never.
func plainTimes(p plain, n *big.Int) plain {
	var total plain
	for i := n.BitLen() - 1; i >= 0; i-- {
		total = plainAdd(total, total)
		if n.Bit(i) == 1 {
			total = plainAdd(total, p)
		}
	}
	return total
}

// plainRoots are the numbers whose square leaves what a leaves: the even one
// first, or none.
func plainRoots(a *big.Int) []*big.Int {
	root := new(big.Int).ModSqrt(left(a), modulus)
	if root == nil {
		return nil
	}
	other := left(new(big.Int).Neg(root))
	if root.Bit(0) == 1 {
		root, other = other, root
	}
	return []*big.Int{root, other}
}
