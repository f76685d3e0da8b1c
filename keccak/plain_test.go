package keccak_test

// What the chapter says, step by step as it says it: slow, and with no table.

type state = [25]uint64

// at is the number of the word of x and y, both modulo 5.
func at(x, y int) int { return x%5 + y%5*5 }

func left(word uint64, by int) uint64 {
	if by == 0 {
		return word
	}
	return word<<by | word>>(64-by)
}

// first is step 1.
func first(a state) state {
	var c [5]uint64
	for x := range 5 {
		for y := range 5 {
			c[x] ^= a[at(x, y)]
		}
	}
	for x := range 5 {
		for y := range 5 {
			a[at(x, y)] ^= c[(x+4)%5] ^ left(c[(x+1)%5], 1)
		}
	}
	return a
}

// turns is r, by the numbers of the words.
func turns() [25]int {
	var r [25]int
	x, y := 1, 0
	for t := range 24 {
		r[at(x, y)] = (t + 1) * (t + 2) / 2 % 64
		x, y = y, (2*x+3*y)%5
	}
	return r
}

// second is step 2.
func second(a state) state {
	var b state
	for x := range 5 {
		for y := range 5 {
			b[at(y, 2*x+3*y)] = left(a[at(x, y)], turns()[at(x, y)])
		}
	}
	return b
}

// third is step 3.
func third(a state) state {
	b := a
	for x := range 5 {
		for y := range 5 {
			b[at(x, y)] ^= ^a[at(x+1, y)] & a[at(x+2, y)]
		}
	}
	return b
}

// row is the row of bits of which step 4 speaks.
func row() [7 * 24]bool {
	var list [7 * 24]bool
	register := 1
	for i := range list {
		list[i] = register%2 == 1
		register *= 2
		if register > 255 {
			register ^= 0x171
		}
	}
	return list
}

// fourth is step 4 of the round of number i.
func fourth(a state, i int) state {
	for j := range 7 {
		if row()[j+7*i] {
			a[0] ^= 1 << (1<<j - 1)
		}
	}
	return a
}

// mixed is what all rounds make of a state.
func mixed(a state) state {
	for i := range 24 {
		a = fourth(third(second(first(a))), i)
	}
	return a
}

// unmixed is the state that is mixed to this one: its steps are undone, the
// last one first.
func unmixed(a state) state {
	for i := range 24 {
		a = fourth(a, 23-i)
		// Four times step 3 leaves a state as it was, and so does 192 times step 1.
		a = third(third(third(a)))
		var b state
		for x := range 5 {
			for y := range 5 {
				b[at(x, y)] = left(a[at(y, 2*x+3*y)], (64-turns()[at(x, y)])%64)
			}
		}
		a = b
		for range 191 {
			a = first(a)
		}
	}
	return a
}

// filled is a text with what stands behind it.
func filled(text string, size int, ahead byte) []byte {
	all := append([]byte(text), ahead)
	for len(all)%size != 0 {
		all = append(all, 0)
	}
	all[len(all)-1] ^= 0x80
	return all
}

// absorbed is what a mix leaves of a text, by blocks of that size.
func absorbed(text []byte, size int, mix func(state) state) state {
	var a state
	for len(text) > 0 {
		for i := range size / 8 {
			for j := range 8 {
				a[i] ^= uint64(text[8*i+j]) << (8 * j)
			}
		}
		a = mix(a)
		text = text[size:]
	}
	return a
}

// shown are as many of a state's bytes.
func shown(a state, size int) string {
	text := make([]byte, size)
	for i := range text {
		text[i] = byte(a[i/8] >> (i % 8 * 8))
	}
	return string(text)
}

// summed is the sum of a text.
func summed(text string) string {
	return shown(absorbed(filled(text, 136, 0x01), 136, mixed), 32)
}
