package field

import (
	"ecclesia/api"
	"ecclesia/u256"
)

// Pow is what a leaves, multiplied n times; 1 of n 0.
func Pow(a, n api.U, which int) (api.U, api.Errno) {
	modulus, errno := Prime(which)
	if errno != api.OK {
		return api.U{}, errno
	}
	times := func(x, y api.U) api.U {
		low, high := u256.Mul(x, y)
		return rest(low, high, modulus)
	}
	power := u256.Small(1)
	for i := u256.Len(n) - 1; i >= 0; i-- {
		power = times(power, power)
		if u256.Bit(n, i) {
			power = times(power, a)
		}
	}
	return power, api.OK
}

// Inv is the number that makes 1 with a; none does with what leaves 0.
func Inv(a api.U, which int) (api.U, api.Errno) {
	modulus, errno := Prime(which)
	if errno != api.OK {
		return api.U{}, errno
	}
	if rest(a, api.U{}, modulus) == (api.U{}) {
		return api.U{}, api.ErrZero
	}
	// Modulo a prime m the power m - 1 is 1, so the power m - 2 turns a number.
	less, _ := u256.Sub(modulus, u256.Small(2))
	return Pow(a, less, which)
}

// Root is the even number whose square leaves what a leaves, modulo the prime.
func Root(a api.U) (api.U, api.Errno) {
	// The prime p leaves 3, divided by 4; so a square's power (p + 1) / 4, which
	// is this, is one of its roots. Of what is no square it is none.
	quarter := api.U{0xFFFFFFFFBFFFFF0C, 0xFFFFFFFFFFFFFFFF, 0xFFFFFFFFFFFFFFFF, 0x3FFFFFFFFFFFFFFF}
	root, _ := Pow(a, quarter, prime)
	square, _ := Mul(root, root, prime)
	left, _ := Reduce(a, api.U{}, prime)
	if square != left {
		return api.U{}, api.ErrZero
	}
	if u256.Bit(root, 0) {
		// The prime is odd: of two roots that make it together one is even.
		root, _ = Sub(api.U{}, root, prime)
	}
	return root, api.OK
}
