package trie_test

import (
	"bytes"
	"encoding/hex"
	"maps"
	"slices"
	"strings"

	"ecclesia/api"
	"ecclesia/keccak"
)

// What the chapter says, by digits: keys' parts are rows of them, as the library
// writes bytes; pairs are a map, and no order of theirs is leant on.

const digits = "0123456789abcdef"

// nowhere is the kids of a node that has none.
var nowhere = [16]int{-1, -1, -1, -1, -1, -1, -1, -1, -1, -1, -1, -1, -1, -1, -1, -1}

// partOf is the part that has these digits.
func partOf(row string) string {
	made := []byte(row)
	for i, one := range made {
		made[i] = byte(strings.IndexByte(digits, one))
	}
	return string(made)
}

// rowOf is a part's digits, if it is one.
func rowOf(part string) (string, bool) {
	made := []byte(part)
	for i, one := range made {
		if one >= 16 {
			return "", false
		}
		made[i] = digits[one]
	}
	return string(made), true
}

// plainTrie is the trie of these pairs.
func plainTrie(pairs map[string]string) api.Trie {
	rows := map[string]string{}
	for key, value := range pairs {
		rows[hex.EncodeToString([]byte(key))] = value
	}
	nodes, root := plainNodes(nil, rows)
	return api.Trie{Nodes: nodes, Root: root}
}

// plainNodes lays the nodes of the pairs whose parts have these digits behind
// others, and tells where the topmost one stands.
func plainNodes(nodes []api.Node, rows map[string]string) ([]api.Node, int) {
	n := api.Node{Kids: nowhere}
	start := ""
	for row := range rows {
		start = row
	}
	switch {
	case len(rows) == 0:
		return nodes, -1
	case len(rows) == 1:
		n.Kind, n.Part, n.Value = api.TLeaf, partOf(start), rows[start]
		return append(nodes, n), len(nodes)
	}
	for !allBegin(rows, start) {
		start = start[:len(start)-1]
	}
	if start != "" {
		n.Kind, n.Part = api.TJoint, partOf(start)
		nodes, n.Kids[0] = plainNodes(nodes, behind(rows, start))
		return append(nodes, n), len(nodes)
	}
	n.Kind, n.Value = api.TBranch, rows[""]
	for i := range 16 {
		nodes, n.Kids[i] = plainNodes(nodes, behind(rows, digits[i:i+1]))
	}
	return append(nodes, n), len(nodes)
}

// allBegin says if all rows begin so.
func allBegin(rows map[string]string, start string) bool {
	for row := range rows {
		if !strings.HasPrefix(row, start) {
			return false
		}
	}
	return true
}

// behind is those rows that begin so, without that beginning.
func behind(rows map[string]string, start string) map[string]string {
	some := map[string]string{}
	for row, value := range rows {
		if rest, is := strings.CutPrefix(row, start); is {
			some[rest] = value
		}
	}
	return some
}

// plainMay says if a pair may be.
func plainMay(key, value string) bool {
	return key != "" && len(key) <= 32 && value != "" && len(value) <= 500
}

// checker holds a trie against what follows from the chapter for each node's
// kind; at is where the next one stands.
type checker struct {
	nodes []api.Node
	at    int
	pairs map[string]string
}

// plainPairs is a trie's pairs, if it may be.
func plainPairs(t api.Trie) (map[string]string, bool) {
	c := checker{nodes: t.Nodes, pairs: map[string]string{}}
	switch {
	case len(t.Nodes) == 0:
		return c.pairs, t.Root == -1
	case len(t.Nodes) > 190 || t.Root != len(t.Nodes)-1:
		return nil, false
	}
	is := c.check(t.Root, "") && c.at == len(t.Nodes) && len(c.pairs) <= 64
	return c.pairs, is
}

// check says if the node there is one that may be, where those above have such
// digits.
func (c *checker) check(at int, ahead string) bool {
	if at < 0 || at >= len(c.nodes) {
		return false
	}
	n := c.nodes[at]
	row, is := rowOf(n.Part)
	if !is || len(ahead+row) > 64 {
		return false
	}
	switch n.Kind {
	case api.TLeaf:
		is = n.Kids == nowhere && c.pair(ahead+row, n.Value)
	case api.TJoint:
		below := n.Kids[0]
		n.Kids[0] = -1
		is = row != "" && n.Value == "" && n.Kids == nowhere &&
			below >= 0 && below < at && c.nodes[below].Kind == api.TBranch && c.check(below, ahead+row)
	case api.TBranch:
		is = row == "" && c.branch(n, at, ahead)
	default:
		return false
	}
	is = is && c.at == at
	c.at++
	return is
}

// branch says if a branch is one that may be.
func (c *checker) branch(n api.Node, at int, ahead string) bool {
	ways := 0
	if n.Value != "" {
		if ways++; !c.pair(ahead, n.Value) {
			return false
		}
	}
	for i, kid := range n.Kids {
		if kid == -1 {
			continue
		}
		if ways++; kid >= at || !c.check(kid, ahead+digits[i:i+1]) {
			return false
		}
	}
	return ways > 1
}

// pair says if these digits are a key's, and the pair may be.
func (c *checker) pair(row, value string) bool {
	key, err := hex.DecodeString(row)
	c.pairs[string(key)] = value
	return err == nil && plainMay(string(key), value)
}

// rising is pairs by their keys.
func rising(pairs map[string]string) []api.Pair {
	var list []api.Pair
	for key, value := range pairs {
		list = append(list, api.Pair{Key: key, Value: value})
	}
	slices.SortFunc(list, func(a, b api.Pair) int { return bytes.Compare([]byte(a.Key), []byte(b.Key)) })
	return list
}

// plainRoot is the root sum of the trie of these pairs, reckoned from them alone.
func plainRoot(pairs map[string]string) string {
	rows := map[string]string{}
	for key, value := range pairs {
		rows[hex.EncodeToString([]byte(key))] = value
	}
	if len(rows) == 0 {
		return keccak.Sum("\x80")
	}
	return keccak.Sum(plainWritten(rows))
}

// plainWritten is the item of the node of these pairs, written.
func plainWritten(rows map[string]string) string {
	keys := slices.Sorted(maps.Keys(rows))
	start := keys[0]
	if len(rows) == 1 {
		return listed(texted(plainPacked(start, 2)), texted(rows[start]))
	}
	for !allBegin(rows, start) {
		start = start[:len(start)-1]
	}
	if start != "" {
		return listed(texted(plainPacked(start, 0)), plainTold(behind(rows, start)))
	}
	var kids []string
	for i := range 16 {
		kids = append(kids, plainTold(behind(rows, digits[i:i+1])))
	}
	return listed(append(kids, texted(rows[""]))...)
}

// plainTold is what the node of these pairs is told by, written.
func plainTold(rows map[string]string) string {
	if len(rows) == 0 {
		return texted("")
	}
	written := plainWritten(rows)
	if len(written) < 32 {
		return written
	}
	return texted(keccak.Sum(written))
}

// plainPacked is digits, packed.
func plainPacked(row string, ends int) string {
	head := digits[ends : ends+1]
	if len(row)%2 == 0 {
		head += "0"
	} else {
		head = digits[ends+1 : ends+2]
	}
	made, _ := hex.DecodeString(head + row)
	return string(made)
}

// texted is bytes, written as an item.
func texted(s string) string {
	if len(s) == 1 && s[0] < 128 {
		return s
	}
	return headed(0x80, s)
}

// listed is items that are written, as a list.
func listed(items ...string) string { return headed(0xC0, strings.Join(items, "")) }

// headed is bytes, of which there are fewer than 65536, behind their head.
func headed(first byte, s string) string {
	size := len(s)
	switch {
	case size < 56:
		return string([]byte{first + byte(size)}) + s
	case size < 256:
		return string([]byte{first + 56, byte(size)}) + s
	}
	return string([]byte{first + 57, byte(size >> 8), byte(size)}) + s
}
