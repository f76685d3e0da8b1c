package keccak

import "math/bits"

// words is how many a state has: five rows of five, one behind the other.
const words = 25

// marks has for each round the bits that it turns in the word of 0 and 0, as
// the chapter's register of eight bits tells them.
var marks = [24]uint64{
	0x0000000000000001, 0x0000000000008082, 0x800000000000808A, 0x8000000080008000,
	0x000000000000808B, 0x0000000080000001, 0x8000000080008081, 0x8000000000008009,
	0x000000000000008A, 0x0000000000000088, 0x0000000080008009, 0x000000008000000A,
	0x000000008000808B, 0x800000000000008B, 0x8000000000008089, 0x8000000000008003,
	0x8000000000008002, 0x8000000000000080, 0x000000000000800A, 0x800000008000000A,
	0x8000000080008081, 0x8000000000008080, 0x0000000080000001, 0x8000000080008008,
}

// Mix is what all rounds make of a state.
func Mix(a [25]uint64) [25]uint64 {
	for _, mark := range marks {
		a = round(a)
		a[0] ^= mark
	}
	return a
}

// round is one round, but for its mark.
func round(a [words]uint64) (b [words]uint64) {
	// Written out row by row it is some four times as fast as in loops over x
	// and y modulo 5, and every sum of the ledger goes through here.
	c0 := a[0] ^ a[5] ^ a[10] ^ a[15] ^ a[20]
	c1 := a[1] ^ a[6] ^ a[11] ^ a[16] ^ a[21]
	c2 := a[2] ^ a[7] ^ a[12] ^ a[17] ^ a[22]
	c3 := a[3] ^ a[8] ^ a[13] ^ a[18] ^ a[23]
	c4 := a[4] ^ a[9] ^ a[14] ^ a[19] ^ a[24]
	d0 := c4 ^ turn(c1, 1)
	d1 := c0 ^ turn(c2, 1)
	d2 := c1 ^ turn(c3, 1)
	d3 := c2 ^ turn(c4, 1)
	d4 := c3 ^ turn(c0, 1)
	// The five words of a row are those that go there, each turned by its r.
	b[0], b[1], b[2], b[3], b[4] = row(
		a[0]^d0, turn(a[6]^d1, 44), turn(a[12]^d2, 43), turn(a[18]^d3, 21), turn(a[24]^d4, 14))
	b[5], b[6], b[7], b[8], b[9] = row(
		turn(a[3]^d3, 28), turn(a[9]^d4, 20), turn(a[10]^d0, 3), turn(a[16]^d1, 45), turn(a[22]^d2, 61))
	b[10], b[11], b[12], b[13], b[14] = row(
		turn(a[1]^d1, 1), turn(a[7]^d2, 6), turn(a[13]^d3, 25), turn(a[19]^d4, 8), turn(a[20]^d0, 18))
	b[15], b[16], b[17], b[18], b[19] = row(
		turn(a[4]^d4, 27), turn(a[5]^d0, 36), turn(a[11]^d1, 10), turn(a[17]^d2, 15), turn(a[23]^d3, 56))
	b[20], b[21], b[22], b[23], b[24] = row(
		turn(a[2]^d2, 62), turn(a[8]^d3, 55), turn(a[14]^d4, 39), turn(a[15]^d0, 41), turn(a[21]^d1, 2))
	return b
}

// turn is a word whose bits go round to the left.
func turn(word uint64, by int) uint64 { return bits.RotateLeft64(word, by) }

// row is five words, each one turned by the two behind it, from the front on
// again behind the last one.
func row(v, w, x, y, z uint64) (uint64, uint64, uint64, uint64, uint64) {
	return v ^ x&^w, w ^ y&^x, x ^ z&^y, y ^ v&^z, z ^ w&^v
}
