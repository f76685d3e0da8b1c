package sha_test

import (
	"encoding/binary"
	"math/big"
	"strings"
)

// What the chapter says, step by step as it says it: slow, and with no table.

type words = [8]uint32

// primes are the first of them, from 2 on.
func primes(count int) []int64 {
	var list []int64
next:
	for n := int64(2); len(list) < count; n++ {
		for _, p := range list {
			if n%p == 0 {
				continue next
			}
		}
		list = append(list, n)
	}
	return list
}

// fraction is the first 32 bits that a prime's root of that degree has behind
// its whole number.
func fraction(prime int64, degree int) uint32 {
	// The root of the prime times 2^(32 degree) is the prime's times 2^32.
	wide := new(big.Int).Lsh(big.NewInt(prime), uint(32*degree))
	root := new(big.Int)
	for bit := 39; bit >= 0; bit-- {
		more := new(big.Int).SetBit(root, bit, 1)
		if new(big.Int).Exp(more, big.NewInt(int64(degree)), nil).Cmp(wide) <= 0 {
			root = more
		}
	}
	return uint32(root.Uint64())
}

// start is H.
func start() words {
	var h words
	for i, prime := range primes(8) {
		h[i] = fraction(prime, 2)
	}
	return h
}

// thirds is K.
func thirds() [64]uint32 {
	var k [64]uint32
	for t, prime := range primes(64) {
		k[t] = fraction(prime, 3)
	}
	return k
}

// odd has each bit one where an odd number of words is.
func odd(list ...uint32) uint32 {
	var made uint32
	for bit := range 32 {
		count := uint32(0)
		for _, word := range list {
			count += word >> bit & 1
		}
		made |= count % 2 << bit
	}
	return made
}

// two has each bit one where two or three of the words are.
func two(a, b, c uint32) uint32 {
	var made uint32
	for bit := range 32 {
		if a>>bit&1+b>>bit&1+c>>bit&1 >= 2 {
			made |= 1 << bit
		}
	}
	return made
}

// chosen has the bits of f where e is one, of g where it is not.
func chosen(e, f, g uint32) uint32 {
	var made uint32
	for bit := range 32 {
		from := g
		if e>>bit&1 == 1 {
			from = f
		}
		made |= from & (1 << bit)
	}
	return made
}

func right(word uint32, by int) uint32 { return word>>by | word<<(32-by) }

// became is what eight words become by a block.
func became(h words, block string, k [64]uint32) words {
	var w [64]uint32
	for t := range w {
		if t < 16 {
			w[t] = binary.BigEndian.Uint32([]byte(block[4*t:]))
			continue
		}
		s0 := odd(right(w[t-15], 7), right(w[t-15], 18), w[t-15]>>3)
		s1 := odd(right(w[t-2], 17), right(w[t-2], 19), w[t-2]>>10)
		w[t] = w[t-16] + s0 + w[t-7] + s1
	}
	a := h
	for t := range w {
		s1 := odd(right(a[4], 6), right(a[4], 11), right(a[4], 25))
		s0 := odd(right(a[0], 2), right(a[0], 13), right(a[0], 22))
		first := a[7] + s1 + chosen(a[4], a[5], a[6]) + k[t] + w[t]
		second := s0 + two(a[0], a[1], a[2])
		a = words{first + second, a[0], a[1], a[2], a[3] + first, a[4], a[5], a[6]}
	}
	for i := range h {
		h[i] += a[i]
	}
	return h
}

// filled is a text with what stands behind it.
func filled(text string) string {
	all := text + "\x80"
	for len(all)%64 != 56 {
		all += "\x00"
	}
	return all + string(binary.BigEndian.AppendUint64(nil, uint64(8*len(text))))
}

// shown are the bytes of eight words.
func shown(h words) string {
	var text []byte
	for _, word := range h {
		text = binary.BigEndian.AppendUint32(text, word)
	}
	return string(text)
}

// plain answers the sum of a text.
func plain() func(string) string {
	h, k := start(), thirds()
	return func(text string) string {
		a := h
		for all := filled(text); all != ""; all = all[64:] {
			a = became(a, all[:64], k)
		}
		return shown(a)
	}
}

// keyed is the sum with a key, by the sum of a text.
func keyed(sum func(string) string, key, text string) string {
	if len(key) > 64 {
		key = sum(key)
	}
	key += strings.Repeat("\x00", 64-len(key))
	turned := func(by byte) string {
		made := []byte(key)
		for i := range made {
			made[i] ^= by
		}
		return string(made)
	}
	return sum(turned(0x5C) + sum(turned(0x36)+text))
}
