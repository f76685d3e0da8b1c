// Package u256 is layer 1, numbers of 256 bits: see shared/doc/01-u256.md.
package u256

import (
	"math/bits"

	"ecclesia/api"
)

// How many bits a word has, and how many bits and bytes a number has.
const (
	wordBits    = 64
	wordBytes   = 8
	numberBits  = 256
	numberBytes = 32
)

// Add is the sum modulo 2^256, and whether it went round.
func Add(a, b api.U) (api.U, bool) {
	var sum api.U
	var carried uint64
	for i, word := range a {
		sum[i], carried = bits.Add64(word, b[i], carried)
	}
	return sum, carried == 1
}

// Sub is the difference modulo 2^256, and whether it went round.
func Sub(a, b api.U) (api.U, bool) {
	var left api.U
	var borrowed uint64
	for i, word := range a {
		left[i], borrowed = bits.Sub64(word, b[i], borrowed)
	}
	return left, borrowed == 1
}

// Mul is the product: what is below 2^256, and how often 2^256 goes in.
func Mul(a, b api.U) (api.U, api.U) {
	var product [8]uint64
	for i, word := range a {
		var carried uint64
		for j, factor := range b {
			// A product of words and two words more has just two words at most.
			high, low := bits.Mul64(word, factor)
			low, over := bits.Add64(low, product[i+j], 0)
			high += over
			product[i+j], over = bits.Add64(low, carried, 0)
			carried = high + over
		}
		product[i+len(b)] = carried
	}
	low := api.U{product[0], product[1], product[2], product[3]}
	return low, api.U{product[4], product[5], product[6], product[7]}
}

// Cmp is -1, 0 or 1, as a is below b, b, or above b.
func Cmp(a, b api.U) int {
	order := 0
	for i, word := range a {
		// A higher word outweighs all that are below it.
		if word < b[i] {
			order = -1
		}
		if word > b[i] {
			order = 1
		}
	}
	return order
}

// Bit tells whether the bit worth 2^i is 1; there is none below 0 or above 255.
func Bit(a api.U, i int) bool {
	if i < 0 || i >= numberBits {
		return false
	}
	return a[i/wordBits]>>(i%wordBits)&1 == 1
}

// Len is how many bits a number has, up to its highest 1.
func Len(a api.U) int {
	length := 0
	for i, word := range a {
		if word != 0 {
			length = i*wordBits + bits.Len64(word)
		}
	}
	return length
}

// Bytes are a number's 32 bytes, the highest first.
func Bytes(a api.U) string {
	var text [numberBytes]byte
	for i := range text {
		behind := numberBytes - 1 - i
		text[i] = byte(a[behind/wordBytes] >> (8 * (behind % wordBytes)))
	}
	return string(text[:])
}

// From is the number that up to 32 bytes make, the highest first.
func From(s string) (api.U, api.Errno) {
	if len(s) > numberBytes {
		return api.U{}, api.ErrForm
	}
	var number api.U
	for i := range len(s) {
		behind := len(s) - 1 - i
		number[behind/wordBytes] |= uint64(s[i]) << (8 * (behind % wordBytes))
	}
	return number, api.OK
}

// Small is a number of one word.
func Small(n uint64) api.U { return api.U{n} }
