package rlp

import "strings"

// numberBytes is how many bytes a number has at most.
const numberBytes = 8

// digits are a number's bytes, the highest first, without a 00 ahead.
func digits(n uint64) string {
	var whole [numberBytes]byte
	for i := range whole {
		whole[numberBytes-1-i] = byte(n >> (8 * i))
	}
	return strings.TrimLeft(string(whole[:]), "\x00")
}

// number is the one of which a text has the digits, if it has one's.
func number(text string) (uint64, bool) {
	if len(text) > numberBytes || strings.HasPrefix(text, "\x00") {
		return 0, false
	}
	var n uint64
	for i := range len(text) {
		n = n<<8 | uint64(text[i])
	}
	return n, true
}
