package rlp_test

import (
	"fmt"
	"math/big"
	"strings"

	"ecclesia/api"
)

// What the chapter says, step by step as it says it: by the library's numbers,
// with no limits, and the way back by holding what stands there, read in any
// writing, against how it is written.

// plainHead is a head of n bytes.
func plainHead(short, long byte, n int) string {
	if n <= 55 {
		return string([]byte{short + byte(n)})
	}
	count := big.NewInt(int64(n)).Bytes()
	return string([]byte{long + byte(len(count))}) + string(count)
}

// plainWritten is an item, written.
func plainWritten(x api.Item) string {
	if !x.List {
		if len(x.Bytes) == 1 && x.Bytes[0] < 0x80 {
			return x.Bytes
		}
		return plainHead(0x80, 0xB7, len(x.Bytes)) + x.Bytes
	}
	var parts []string
	for _, kid := range x.Kids {
		parts = append(parts, plainWritten(kid))
	}
	whole := strings.Join(parts, "")
	return plainHead(0xC0, 0xF7, len(whole)) + whole
}

// plainDepth is how deep lists are in an item, by steps from above.
func plainDepth(x api.Item) int {
	deep := 0
	for row := []api.Item{x}; len(row) > 0; {
		var below []api.Item
		some := 0
		for _, one := range row {
			if one.List {
				some = 1
			}
			below = append(below, one.Kids...)
		}
		deep += some
		row = below
	}
	return deep
}

// plainCount is how many items are in an item.
func plainCount(x api.Item) int {
	count := 1
	for _, kid := range x.Kids {
		count += plainCount(kid)
	}
	return count
}

// plainEncode is what Encode answers of an item in which each one is bytes or a
// list.
func plainEncode(x api.Item) (string, api.Errno) {
	if plainCount(x) > 4000 {
		return "", api.ErrArg
	}
	if plainDepth(x) > 8 {
		return "", api.ErrDeep
	}
	if whole := plainWritten(x); len(whole) <= 4000 {
		return whole, api.OK
	}
	return "", api.ErrLong
}

// loose takes an item off a text's front in any writing, also in such as are
// none's, or tells that there is none.
func loose(s string) (x api.Item, rest string, found bool) {
	if s == "" {
		return x, "", false
	}
	first := int(s[0])
	if first < 0x80 {
		return api.Item{Bytes: s[:1]}, s[1:], true
	}
	x.List = first >= 0xC0
	n, s := first&0x3F, s[1:]
	if n > 55 {
		many := n - 55
		if many > len(s) {
			return x, "", false
		}
		whole := new(big.Int).SetBytes([]byte(s[:many]))
		if whole.Cmp(big.NewInt(int64(len(s)))) > 0 {
			return x, "", false
		}
		n, s = int(whole.Int64()), s[many:]
	}
	if n > len(s) {
		return x, "", false
	}
	inside, rest := s[:n], s[n:]
	if !x.List {
		x.Bytes = inside
		return x, rest, true
	}
	for inside != "" {
		kid, behind, found := loose(inside)
		if !found {
			return x, "", false
		}
		x.Kids, inside = append(x.Kids, kid), behind
	}
	return x, rest, true
}

// plainDecode is what Decode answers.
func plainDecode(s string) (api.Item, api.Errno) {
	if len(s) > 4000 {
		return api.Item{}, api.ErrLong
	}
	x, rest, found := loose(s)
	if !found || rest != "" || plainWritten(x) != s {
		return api.Item{}, api.ErrForm
	}
	if plainDepth(x) > 8 {
		return api.Item{}, api.ErrDeep
	}
	return x, api.OK
}

// same holds items against one another: lists without kids are one.
func same(x, y api.Item) bool {
	if x.List != y.List || x.Bytes != y.Bytes || len(x.Kids) != len(y.Kids) {
		return false
	}
	for i := range x.Kids {
		if !same(x.Kids[i], y.Kids[i]) {
			return false
		}
	}
	return true
}

// shown is an item as far as a message needs it.
func shown(x api.Item) string {
	return fmt.Sprintf("(list %t, %d bytes %.20x, %d kids, written %.20x)", x.List, len(x.Bytes), x.Bytes, len(x.Kids), plainWritten(x))
}
