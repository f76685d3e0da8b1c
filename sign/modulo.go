package sign

import (
	"ecclesia/api"
	"ecclesia/field"
	"ecclesia/u256"
)

// order is how package field calls the modulus of secrets; it knows that one,
// so that none of its calls can tell an error but Inv of 0, which is not asked.
const order = 1

// within tells whether a number is neither 0 nor the order or above, as
// secrets, nonces and a signature's R are.
func within(a api.U) bool {
	modulus, _ := field.Prime(order)
	return a != (api.U{}) && u256.Cmp(a, modulus) < 0
}

// low tells whether a number is from 1 to half the order: then what makes the
// order with it is above it. Of 0, and from the order on, nothing is.
func low(a api.U) bool { return u256.Cmp(a, turned(a)) < 0 }

// turned is what leaves 0 with a.
func turned(a api.U) api.U {
	made, _ := field.Sub(api.U{}, a, order)
	return made
}

// sum is what a + b leaves.
func sum(a, b api.U) api.U {
	made, _ := field.Add(a, b, order)
	return made
}

// product is what a times b leaves.
func product(a, b api.U) api.U {
	made, _ := field.Mul(a, b, order)
	return made
}

// numberOf is a digest's number.
func numberOf(digest string) (api.U, api.Errno) {
	if len(digest) != api.Hash {
		return api.U{}, api.ErrArg
	}
	whole, _ := u256.From(digest)
	return field.Reduce(whole, api.U{}, order)
}
