package u256

import (
	"math"
	"math/bits"

	"ecclesia/api"
)

// Mod is what low and 2^256 times high leave together, divided by m.
func Mod(low, high, m api.U) (api.U, api.Errno) {
	if m == (api.U{}) {
		return api.U{}, api.ErrZero
	}
	// All is raised until the divisor's highest bit is 1: only then are a
	// divisor's first words enough to guess how often it goes in.
	up := numberBits - Len(m)
	unit := power(up)
	divisor, _ := Mul(m, unit)
	last, carried := Mul(low, unit)
	middle, first := Mul(high, unit)
	middle, _ = Add(middle, carried)
	// What is first is below 2^up, and so below the divisor already.
	rest := first
	for _, part := range [2]api.U{middle, last} {
		for i := range part {
			rest = bringDown(rest, part[len(part)-1-i], divisor)
		}
	}
	return lower(rest, up), api.OK
}

// bringDown is what 2^64 times rest and the next word leave together, divided
// by a divisor that is above rest and has its highest bit 1.
func bringDown(rest api.U, next uint64, divisor api.U) api.U {
	product, over := times(divisor, guess(rest, divisor))
	left, below := Sub(api.U{next, rest[0], rest[1], rest[2]}, product)
	top := rest[3] - over
	if below {
		top--
	}
	// A guess too high leaves a number below 0, so that top went round.
	for top != 0 {
		var carried bool
		left, carried = Add(left, divisor)
		if carried {
			top++
		}
	}
	return left
}

// times is a so often, and the word that goes beyond.
func times(a api.U, factor uint64) (api.U, uint64) {
	var product api.U
	var carried, over uint64
	for i, word := range a {
		high, low := bits.Mul64(word, factor)
		product[i], over = bits.Add64(low, carried, 0)
		carried = high + over
	}
	return product, carried
}

// guess is how often the divisor goes into 2^64 times rest and a word more, or
// one or two above that (Knuth, The Art of Computer Programming 2, 4.3.1).
func guess(rest, divisor api.U) uint64 {
	if rest[3] >= divisor[3] {
		// The quotient of the first words would have more than one word.
		return math.MaxUint64
	}
	quotient, _ := bits.Div64(rest[3], rest[2], divisor[3])
	return quotient
}

// power is 2^up, of up from 0 to 255.
func power(up int) api.U {
	var number api.U
	number[up/wordBits] = 1 << (up % wordBits)
	return number
}

// lower is a divided by 2^down, of down from 0 to 255.
func lower(a api.U, down int) api.U {
	var number api.U
	whole, part := down/wordBits, down%wordBits
	for i, word := range a {
		if i >= whole {
			number[i-whole] |= word >> part
		}
		if i > whole {
			number[i-whole-1] |= word << (wordBits - part)
		}
	}
	return number
}
