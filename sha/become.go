package sha

import "math/bits"

// roots has the chapter's K: of the cube root of each of the first 64 primes
// the first 32 bits behind its whole number.
var roots = [64]uint32{
	0x428A2F98, 0x71374491, 0xB5C0FBCF, 0xE9B5DBA5, 0x3956C25B, 0x59F111F1, 0x923F82A4, 0xAB1C5ED5,
	0xD807AA98, 0x12835B01, 0x243185BE, 0x550C7DC3, 0x72BE5D74, 0x80DEB1FE, 0x9BDC06A7, 0xC19BF174,
	0xE49B69C1, 0xEFBE4786, 0x0FC19DC6, 0x240CA1CC, 0x2DE92C6F, 0x4A7484AA, 0x5CB0A9DC, 0x76F988DA,
	0x983E5152, 0xA831C66D, 0xB00327C8, 0xBF597FC7, 0xC6E00BF3, 0xD5A79147, 0x06CA6351, 0x14292967,
	0x27B70A85, 0x2E1B2138, 0x4D2C6DFC, 0x53380D13, 0x650A7354, 0x766A0ABB, 0x81C2C92E, 0x92722C85,
	0xA2BFE8A1, 0xA81A664B, 0xC24B8B70, 0xC76C51A3, 0xD192E819, 0xD6990624, 0xF40E3585, 0x106AA070,
	0x19A4C116, 0x1E376C08, 0x2748774C, 0x34B0BCB5, 0x391C0CB3, 0x4ED8AA4A, 0x5B9CCA4F, 0x682E6FF3,
	0x748F82EE, 0x78A5636F, 0x84C87814, 0x8CC70208, 0x90BEFFFA, 0xA4506CEB, 0xBEF9A3F7, 0xC67178F2,
}

// become is what eight words become by a block.
func become(words [8]uint32, block [16]uint32) [8]uint32 {
	// Handed on as an array the eight would be stored and read anew each step.
	a, b, c, d := words[0], words[1], words[2], words[3]
	e, f, g, h := words[4], words[5], words[6], words[7]
	for t, word := range spread(block) {
		first := h + turned(e, 6, 11, 25) + (e&f | ^e&g) + roots[t] + word
		second := turned(a, 2, 13, 22) + (a&b | a&c | b&c)
		h, g, f, e = g, f, e, d+first
		d, c, b, a = c, b, a, first+second
	}
	for i, word := range [8]uint32{a, b, c, d, e, f, g, h} {
		words[i] += word
	}
	return words
}

// spread is the chapter's W: a block's words, and those made of them.
func spread(block [16]uint32) (w [64]uint32) {
	copy(w[:], block[:])
	for t := len(block); t < len(w); t++ {
		early, late := w[t-15], w[t-2]
		w[t] = w[t-16] + moved(early, 7, 18, 3) + w[t-7] + moved(late, 17, 19, 10)
	}
	return w
}

// turned has the bits that are one in an odd number of three: the word turned
// to the right by each of these.
func turned(word uint32, i, j, k int) uint32 {
	return right(word, i) ^ right(word, j) ^ right(word, k)
}

// moved is as turned, but that by the last one the word is moved: what goes
// out to the right is gone.
func moved(word uint32, i, j, k int) uint32 {
	return right(word, i) ^ right(word, j) ^ word>>k
}

// right is a word whose bits go round to the right.
func right(word uint32, by int) uint32 { return bits.RotateLeft32(word, -by) }
