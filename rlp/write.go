package rlp

import (
	"strings"

	"ecclesia/api"
)

// What heads begin with: of bytes, and of a list. Up to short bytes are counted
// by the head's first byte, others by bytes of their own behind it.
const (
	textHead = 0x80
	listHead = 0xC0
	short    = 55
)

// left is how many more items may be, behind an item and those in it, if so many
// may; below 0, if these are too many, or one is neither bytes nor a list. It
// ends as soon as one is too many, however many there are.
func left(x api.Item, room int) int {
	if room == 0 || mixed(x) {
		return -1
	}
	room--
	for _, kid := range x.Kids {
		if room = left(kid, room); room < 0 {
			return room
		}
	}
	return room
}

// mixed says if an item is neither bytes nor a list.
func mixed(x api.Item) bool {
	if x.List {
		return x.Bytes != ""
	}
	return len(x.Kids) > 0
}

// depth is how deep the deepest list in an item is.
func depth(x api.Item) int {
	if !x.List {
		return 0
	}
	deepest := 0
	for _, kid := range x.Kids {
		deepest = max(deepest, depth(kid))
	}
	return 1 + deepest
}

// size is how many bytes an item has, written.
func size(x api.Item) uint64 {
	if single(x.Bytes) {
		return 1
	}
	n := inside(x)
	return uint64(len(head(x, n))) + n
}

// inside is how many bytes an item has behind its head, if it has one.
func inside(x api.Item) uint64 {
	n := uint64(len(x.Bytes))
	for _, kid := range x.Kids {
		n += size(kid)
	}
	return n
}

// single says if a text is one byte that tells itself from a head, so that it is
// written without one. A list has no text.
func single(text string) bool { return len(text) == 1 && text[0] < textHead }

// head is what stands ahead of n bytes of an item.
func head(x api.Item, n uint64) string {
	first := byte(textHead)
	if x.List {
		first = listHead
	}
	if n <= short {
		return string([]byte{first + byte(n)})
	}
	count := digits(n)
	return string([]byte{first + short + byte(len(count))}) + count
}

// write writes an item that may be.
func write(made *strings.Builder, x api.Item) {
	if !single(x.Bytes) {
		made.WriteString(head(x, inside(x)))
	}
	made.WriteString(x.Bytes)
	for _, kid := range x.Kids {
		write(made, kid)
	}
}
