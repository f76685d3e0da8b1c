package trie

import (
	"slices"
	"strings"

	"ecclesia/api"
	"ecclesia/nibble"
)

const (
	maxValue = 500
	// maxPart is how many half bytes a key's part has at most.
	maxPart = 2 * api.MaxKey
	// maxNodes is more nodes than a trie ever has: a leaf ends a pair, a branch
	// parts pairs, and a joint stands above a branch.
	maxNodes = 3 * api.MaxPairs
)

// reader goes through a trie's nodes and collects the pairs that may be; left is
// how many nodes it still goes through, as those that may not be can lead round
// in a ring.
type reader struct {
	nodes []api.Node
	pairs []api.Pair
	left  int
}

// read is a trie's pairs, their keys rising, if it may be. What is read of one
// that may not be is of no weight, as that is no pairs' trie.
func read(t api.Trie) ([]api.Pair, bool) {
	r := reader{nodes: t.Nodes, left: maxNodes}
	r.walk(t.Root, "")
	if len(r.pairs) > api.MaxPairs || !rise(r.pairs) || !same(build(r.pairs), t) {
		return nil, false
	}
	return r.pairs, true
}

// walk collects the pairs of a node, and of those below it; ahead is what the
// nodes above it have of their keys' parts.
func (r *reader) walk(at int, ahead string) {
	if r.left == 0 || at < 0 || at >= len(r.nodes) {
		return
	}
	r.left--
	n := r.nodes[at]
	if len(ahead)+len(n.Part) > maxPart {
		return
	}
	part := ahead + n.Part
	r.found(part, n.Value)
	for i, kid := range n.Kids {
		if kid != none {
			r.walk(kid, part+step(n.Kind, i))
		}
	}
}

// found collects a pair, if it may be. Where a part is no key's, or a node has
// no value, there is none: an empty key, as an empty value, may not be.
func (r *reader) found(part, value string) {
	key, _ := nibble.Key(part)
	if one := (api.Pair{Key: key, Value: value}); may(one) {
		r.pairs = append(r.pairs, one)
	}
}

// step is the half byte by which a node of some kind leads to a kid, if it does.
func step(kind, kid int) string {
	if kind == api.TBranch {
		return string([]byte{byte(kid)})
	}
	return ""
}

// rise says if the keys of pairs rise, none twice.
func rise(pairs []api.Pair) bool {
	for i := 1; i < len(pairs); i++ {
		if pairs[i-1].Key >= pairs[i].Key {
			return false
		}
	}
	return true
}

// same says if two tries are alike.
func same(a, b api.Trie) bool {
	return a.Root == b.Root && slices.Equal(a.Nodes, b.Nodes)
}

// may says if a pair may be.
func may(one api.Pair) bool {
	return between(len(one.Key), api.MaxKey) && between(len(one.Value), maxValue)
}

// between says if a size is at least 1, and at most some other one.
func between(size, most int) bool { return 1 <= size && size <= most }

// find is where a key stands among pairs, or would, and whether it does.
func find(pairs []api.Pair, key string) (int, bool) {
	return slices.BinarySearchFunc(pairs, key, func(one api.Pair, key string) int {
		return strings.Compare(one.Key, key)
	})
}
