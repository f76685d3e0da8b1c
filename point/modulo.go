package point

import (
	"ecclesia/api"
	"ecclesia/field"
	"ecclesia/u256"
)

// prime is how package field calls the modulus of points; it knows that one,
// so that none of the calls below can tell an error.
const prime = 0

// reduced tells whether a number is below the prime.
func reduced(a api.U) bool {
	modulus, _ := field.Prime(prime)
	return u256.Cmp(a, modulus) < 0
}

// sum is what a + b leaves.
func sum(a, b api.U) api.U {
	made, _ := field.Add(a, b, prime)
	return made
}

// less is what a - b leaves.
func less(a, b api.U) api.U {
	made, _ := field.Sub(a, b, prime)
	return made
}

// product is what a times b leaves.
func product(a, b api.U) api.U {
	made, _ := field.Mul(a, b, prime)
	return made
}
