package trie

import (
	"ecclesia/api"
	"ecclesia/keccak"
	"ecclesia/nibble"
	"ecclesia/rlp"
)

// topmost is the item of the last one of a trie's nodes; of no node, no bytes.
func topmost(nodes []api.Node) api.Item {
	var top api.Item
	// Each node stands behind those below it.
	var below []api.Item
	for _, n := range nodes {
		top = itemOf(n, below)
		below = append(below, told(top))
	}
	return top
}

// itemOf is a node's item; below is what each node ahead of it is told by.
func itemOf(n api.Node, below []api.Item) api.Item {
	switch n.Kind {
	case api.TLeaf:
		return rlp.List(packed(n.Part, true), bytesOf(n.Value))
	case api.TJoint:
		return rlp.List(packed(n.Part, false), below[n.Kids[0]])
	default:
		kids := make([]api.Item, width)
		for i, kid := range n.Kids {
			if kid != none {
				kids[i] = below[kid]
			}
		}
		return rlp.List(append(kids, bytesOf(n.Value))...)
	}
}

// told is what a node with such an item is told by.
func told(x api.Item) api.Item {
	// It is never an error: a branch, the longest one, has seventeen items, each of
	// at most 32 bytes but for the value, and short ones alone have lists in them.
	text, _ := rlp.Encode(x)
	if len(text) < api.Hash {
		return x
	}
	return bytesOf(keccak.Sum(text))
}

// packed is a part as an item, packed with whether it ends a key.
func packed(part string, ends bool) api.Item {
	text, _ := nibble.Pack(part, ends)
	return bytesOf(text)
}

// bytesOf is a text as an item.
func bytesOf(text string) api.Item { return api.Item{Bytes: text} }
