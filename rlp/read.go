package rlp

import (
	"strings"

	"ecclesia/api"
)

// decoder takes items from the front of what is left. Where no item stands
// there it stops all that is under way, by a panic that read recovers.
type decoder struct{ rest string }

// read is the item whose bytes these are, however deep.
func read(s string) (x api.Item, errno api.Errno) {
	defer func() {
		if recover() != nil {
			x, errno = api.Item{}, api.ErrForm
		}
	}()
	d := decoder{rest: s}
	x = d.item()
	if d.rest != "" {
		panic(api.ErrForm)
	}
	return x, api.OK
}

// item takes an item.
func (d *decoder) item() api.Item {
	switch first := d.take(1); {
	case single(first):
		return textOf(first)
	case first[0] < listHead:
		text := d.take(d.count(first[0] - textHead))
		if single(text) {
			panic(api.ErrForm)
		}
		return textOf(text)
	default:
		return listOf(d.take(d.count(first[0] - listHead)))
	}
}

// textOf is a text as an item.
func textOf(text string) api.Item {
	// A copy, as an item that is kept would else keep all that was read.
	return api.Item{Bytes: strings.Clone(text)}
}

// listOf is the list of the items that a text has, one behind the other.
func listOf(text string) api.Item {
	x, d := api.Item{List: true}, decoder{rest: text}
	for d.rest != "" {
		x.Kids = append(x.Kids, d.item())
	}
	return x
}

// count is how many bytes stand behind a head, by what its first byte counts.
func (d *decoder) count(first byte) uint64 {
	if first <= short {
		return uint64(first)
	}
	// What is no number counts as 0, for which too there is a shorter head.
	n, _ := number(d.take(uint64(first - short)))
	if n <= short {
		panic(api.ErrForm)
	}
	return n
}

// take takes the next n bytes.
func (d *decoder) take(n uint64) string {
	if n > uint64(len(d.rest)) {
		panic(api.ErrForm)
	}
	taken := d.rest[:n]
	d.rest = d.rest[n:]
	return taken
}
