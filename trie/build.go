package trie

import (
	"ecclesia/api"
	"ecclesia/nibble"
)

// width is how many kids a node has room for, one for each half byte; none is
// where there is no node.
const (
	width = 16
	none  = -1
)

// entry is a key's part and value.
type entry struct{ part, value string }

// arena is nodes that are laid one behind the other.
type arena struct{ nodes []api.Node }

// build is the trie of pairs whose keys rise.
func build(pairs []api.Pair) api.Trie {
	rows := make([]entry, len(pairs))
	for i, one := range pairs {
		rows[i] = entry{nibble.Of(one.Key), one.Value}
	}
	var a arena
	root := a.node(rows, 0)
	return api.Trie{Nodes: a.nodes, Root: root}
}

// node lays the node of some entries behind those below it; the answer is where
// it stands. Here and below the entries' parts rise, none twice, and the nodes
// above have the first half bytes of them, so many as ahead says.
func (a *arena) node(rows []entry, ahead int) int {
	lay := a.branch
	switch {
	case len(rows) == 0:
		return none
	case len(rows) == 1:
		lay = a.leaf
	case common(rows) > ahead:
		lay = a.joint
	}
	return lay(rows, ahead)
}

// leaf lays the node of one entry.
func (a *arena) leaf(rows []entry, ahead int) int {
	return a.add(api.Node{Kind: api.TLeaf, Part: rows[0].part[ahead:], Value: rows[0].value, Kids: alone()})
}

// joint lays the node of entries whose parts go on alike.
func (a *arena) joint(rows []entry, ahead int) int {
	end := common(rows)
	kids := alone()
	kids[0] = a.node(rows, end)
	return a.add(api.Node{Kind: api.TJoint, Part: rows[0].part[ahead:end], Kids: kids})
}

// branch lays the node of entries whose parts part here.
func (a *arena) branch(rows []entry, ahead int) int {
	n := api.Node{Kind: api.TBranch}
	// As parts rise, the one that ends here comes first.
	if len(rows[0].part) == ahead {
		n.Value = rows[0].value
		rows = rows[1:]
	}
	for i, heap := range heaps(rows, ahead) {
		n.Kids[i] = a.node(heap, ahead+1)
	}
	return a.add(n)
}

// add adds a node; the answer is where it stands.
func (a *arena) add(n api.Node) int {
	a.nodes = append(a.nodes, n)
	return len(a.nodes) - 1
}

// alone is the kids of a node that has none.
func alone() [width]int {
	var kids [width]int
	for i := range kids {
		kids[i] = none
	}
	return kids
}

// common is with how many half bytes the parts of some entries all begin alike:
// as they rise, those between have what the first one and the last one have.
func common(rows []entry) int {
	return nibble.Share(rows[0].part, rows[len(rows)-1].part)
}

// heaps is entries by the half byte that their parts have in one place, up to
// which all are alike.
func heaps(rows []entry, place int) [width][]entry {
	var made [width][]entry
	for i := range made {
		size := 0
		for size < len(rows) && rows[size].part[place] == byte(i) {
			size++
		}
		made[i], rows = rows[:size], rows[size:]
	}
	return made
}
