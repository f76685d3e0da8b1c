package trie_test

import (
	"slices"
	"strings"
	"testing"

	"ecclesia/api"
	"ecclesia/trie"
)

// changed is a trie with one node of which one thing is unlike.
func changed(x api.Trie, at, field, number int) api.Trie {
	x.Nodes = slices.Clone(x.Nodes)
	n := &x.Nodes[at]
	switch field % 24 {
	case 16:
		n.Kind = number
	case 17:
		n.Part += string([]byte{byte(number)})
	case 18:
		n.Part = n.Part[min(len(n.Part), max(0, number)):]
	case 19:
		n.Part = string([]byte{byte(number)}) + n.Part
	case 20:
		n.Value = strings.Repeat("w", number&511)
	case 21:
		n.Value = ""
	case 22:
		x.Root = number
	case 23:
		if halves := []byte(n.Part); len(halves) > 0 {
			halves[0] ^= byte(number)
			n.Part = string(halves)
		}
	default:
		n.Kids[field%24] = number
	}
	return x
}

// several are tries of all kinds of nodes.
func several(t *testing.T) []api.Trie {
	t.Helper()
	list := []api.Trie{}
	for _, keys := range [][]string{
		{"a"}, {"a", "b"}, {"a", "ab"}, {"a", "q"}, {"a", "ab", "abc"}, {"ab", "abc", "abd", "q"}, {"\x00", "\x01", "\x10", "\x11"}, pool(),
	} {
		pairs := map[string]string{}
		for _, key := range keys {
			pairs[key] = "v" + key
		}
		list = append(list, made(t, pairs))
	}
	return list
}

// TestChanged is for P10.1 to P10.3: each thing of each node, unlike: what comes
// of it is another trie that may be, or none.
func TestChanged(t *testing.T) {
	right, wrong := 0, 0
	for _, x := range several(t) {
		for at := range x.Nodes {
			for field := range 24 {
				for _, number := range []int{-2, -1, 0, 1, 2, 3, 4, 15, 16, at, at - 1, at + 1, len(x.Nodes) - 1, len(x.Nodes), 300, 1 << 40} {
					if judged(t, changed(x, at, field, number)) {
						right++
					} else {
						wrong++
					}
				}
			}
		}
	}
	if right < 1000 || wrong < 1000 {
		t.Errorf("%d may be, %d may not", right, wrong)
	}
}

// TestMoved is for P10.1: nodes that stand elsewhere, are too many, or not
// there; nodes of two tries.
func TestMoved(t *testing.T) {
	for _, x := range several(t) {
		size := len(x.Nodes)
		for at := range size {
			judged(t, api.Trie{Nodes: slices.Delete(slices.Clone(x.Nodes), at, at+1), Root: x.Root})
			judged(t, api.Trie{Nodes: slices.Delete(slices.Clone(x.Nodes), at, at+1), Root: size - 2})
			judged(t, api.Trie{Nodes: x.Nodes[:at+1], Root: at})
			refused(t, api.Trie{Nodes: x.Nodes[at:], Root: size})
			for to := range at {
				refused(t, swapped(x, at, to))
			}
		}
		for _, more := range []api.Node{{}, leaf("\x06\x01", "1"), x.Nodes[0], x.Nodes[size-1]} {
			refused(t, api.Trie{Nodes: append(slices.Clone(x.Nodes), more), Root: x.Root})
			judged(t, api.Trie{Nodes: append(slices.Clone(x.Nodes), more), Root: size})
			refused(t, api.Trie{Nodes: append([]api.Node{more}, x.Nodes...), Root: x.Root})
		}
		for _, root := range []int{-3, -1, size, size + 1, 1 << 62, -1 << 62} {
			refused(t, api.Trie{Nodes: x.Nodes, Root: root})
		}
	}
}

// swapped is a trie in which two nodes stand in each other's place, and those
// above them lead to where they stand.
func swapped(x api.Trie, a, b int) api.Trie {
	there := func(at int) int {
		switch at {
		case a:
			return b
		case b:
			return a
		}
		return at
	}
	y := api.Trie{Nodes: slices.Clone(x.Nodes), Root: there(x.Root)}
	y.Nodes[a], y.Nodes[b] = y.Nodes[b], y.Nodes[a]
	for i := range y.Nodes {
		for half, kid := range y.Nodes[i].Kids {
			y.Nodes[i].Kids[half] = there(kid)
		}
	}
	return y
}

// TestWrongNodes is for P10.1: nodes that are of no trie that may be, each for
// one reason.
func TestWrongNodes(t *testing.T) {
	even, odd := "\x06\x01", "\x06"
	wide := leaf("", "v")
	wide.Kids[15] = 0
	cases := map[string]api.Trie{
		"leaf of no value":          trieOf(leaf(even, "")),
		"leaf of a long value":      trieOf(leaf(even, text(501))),
		"leaf of half a byte":       trieOf(leaf(odd, "v")),
		"leaf of the empty key":     trieOf(leaf("", "v")),
		"leaf of a long key":        trieOf(leaf(strings.Repeat(even, 33), "v")),
		"leaf of no half byte":      trieOf(leaf("\x06\x10", "v")),
		"leaf with kids":            trieOf(leaf(even, "v"), wide),
		"leaf with zero kids":       trieOf(api.Node{Kind: api.TLeaf, Part: even, Value: "v"}),
		"kid of itself":             trieOf(api.Node{Kind: api.TLeaf, Part: even, Value: "v", Kids: kids(map[int]int{3: 0})}),
		"node of no kind":           trieOf(api.Node{Part: even, Value: "v", Kids: nowhere}),
		"node of a fourth kind":     trieOf(api.Node{Kind: 4, Part: even, Value: "v", Kids: nowhere}),
		"joint of none":             trieOf(joint(even, -1)),
		"joint of a leaf":           trieOf(leaf("", "v"), joint(even, 0)),
		"joint of a longer leaf":    trieOf(leaf(even, "v"), joint(even, 0)),
		"joint of no part":          trieOf(leaf(odd, "v"), leaf(odd, "v"), branch("", map[int]int{6: 0, 7: 1}), joint("", 2)),
		"joint of a joint":          trieOf(leaf("", "v"), leaf("", "v"), branch("", map[int]int{1: 0, 2: 1}), joint(odd, 2), joint(even, 3)),
		"joint with a value":        trieOf(leaf("\x02", "2"), branch("1", map[int]int{6: 0}), api.Node{Kind: api.TJoint, Part: even, Value: "v", Kids: kids(map[int]int{0: 1})}),
		"joint with a second kid":   trieOf(leaf("\x02", "2"), branch("1", map[int]int{6: 0}), api.Node{Kind: api.TJoint, Part: even, Kids: kids(map[int]int{0: 1, 1: 0})}),
		"joint with its kid second": trieOf(leaf("\x02", "2"), branch("1", map[int]int{6: 0}), api.Node{Kind: api.TJoint, Part: even, Kids: kids(map[int]int{1: 1})}),
		"joint of no half bytes":    trieOf(leaf("\x02", "2"), branch("1", map[int]int{6: 0}), joint("ab", 1)),
		"joint of two kids alike":   trieOf(leaf("\x02", "2"), branch("1", map[int]int{6: 0}), api.Node{Kind: api.TJoint, Part: even, Kids: kids(map[int]int{0: 1, 1: 1})}),
		"branch of none":            trieOf(branch("", nil)),
		"branch of a value alone":   trieOf(branch("v", nil)),
		"branch of one kid":         trieOf(leaf(odd, "v"), branch("", map[int]int{6: 0})),
		"branch of the empty key":   trieOf(leaf(odd, "v"), branch("v", map[int]int{6: 0})),
		"branch of half a byte":     trieOf(leaf("\x01\x02", "v"), branch("v", map[int]int{6: 0}), joint(odd, 1)),
		"branch of a kid twice":     trieOf(leaf(odd, "v"), branch("", map[int]int{6: 0, 7: 0})),
		"branch with a part":        trieOf(leaf("", "v"), leaf("", "v"), api.Node{Kind: api.TBranch, Part: odd, Kids: kids(map[int]int{1: 0, 2: 1})}),
		"branch of a long value":    trieOf(leaf("\x02", "2"), branch(text(501), map[int]int{6: 0}), joint(even, 1)),
		"branch of kids that turn":  trieOf(leaf(odd, "v"), leaf(odd, "v"), branch("", map[int]int{6: 1, 7: 0})),
		"leaf below a leaf":         trieOf(leaf("", "v"), api.Node{Kind: api.TLeaf, Part: even, Value: "v", Kids: kids(map[int]int{0: 0})}),
		"leaves below a joint":      trieOf(leaf("\x01\x02", "1"), leaf("", "2"), api.Node{Kind: api.TJoint, Part: even, Kids: kids(map[int]int{0: 0, 1: 1})}),
		"one leaf too many":         trieOf(leaf(even, "1"), leaf(even, "1")),
		"nodes without a root":      {Nodes: []api.Node{leaf(even, "v")}, Root: -1},
	}
	for name, x := range cases {
		if _, is := plainPairs(x); is {
			t.Errorf("%s: the chapter's words let it be", name)
		}
		refused(t, x)
	}
}

// TestTooMany is for P10.1: the nodes of 65 pairs, each of which may be.
func TestTooMany(t *testing.T) {
	for _, most := range []int{63, 64, 65, 66, 190, 191, 192, 193, 256} {
		pairs := map[string]string{}
		for i := range most {
			pairs[string([]byte{byte(i)})+"key"] = "v"
		}
		if is := judged(t, plainTrie(pairs)); is != (most <= 64) {
			t.Errorf("%d pairs: %t", most, is)
		}
	}
}

// TestLongKeys is for P10.1: nodes of keys of 32 bytes, and of 33.
func TestLongKeys(t *testing.T) {
	for size := 30; size < 36; size++ {
		long := strings.Repeat("k", size)
		for _, pairs := range []map[string]string{
			{long: "1"}, {long: "1", "q": "2"}, {long: "1", long[1:]: "2"}, {long: "1", long[1:] + "l": "2"}, {long + "k": "1", long + "l": "2", "k": "3"},
		} {
			is := true
			for key := range pairs {
				is = is && len(key) <= 32
			}
			if judged(t, plainTrie(pairs)) != is {
				t.Errorf("%d bytes, %d pairs: not %t", size, len(pairs), is)
			}
		}
	}
}

// TestRings is for P1 and P10.1: nodes that lead to themselves, or to each
// other, or by many ways to few, and such as have a great deal in them.
func TestRings(t *testing.T) {
	all := map[int]int{}
	for half := range 16 {
		all[half] = 0
	}
	ring, ways := []api.Node{}, []api.Node{}
	for i := range 3000 {
		ring = append(ring, joint("\x01", (i+1)%3000))
		for half := range 16 {
			all[half] = i - 1
		}
		ways = append(ways, branch("", all))
	}
	self := branch("", nil)
	self.Kids = [16]int{}
	huge := strings.Repeat("\x01", 1<<24)
	long := make([]api.Node, 1<<16)
	for i := range long {
		long[i] = joint("", i-1)
	}
	heavy := make([]api.Node, 180)
	for i := range heavy {
		heavy[i] = joint(huge, i-1)
	}
	valued := branch("v", nil)
	valued.Kids = [16]int{}
	for _, x := range []api.Trie{
		trieOf(ring...), trieOf(ways...), trieOf(self), trieOf(long...), trieOf(heavy...), trieOf(valued),
		trieOf(joint("", 0)), trieOf(joint("\x01", 0)), trieOf(leaf(huge, "v")), trieOf(leaf("\x06\x01", huge)),
		trieOf(joint("", 1), joint("", 0)), trieOf(leaf("\x06\x01", "v"), branch("v", map[int]int{1: 1, 2: 2, 3: 0})),
	} {
		if trie.Right(x) {
			t.Errorf("it may be: %s", shown(x))
		}
		if _, e := trie.Root(x); e != api.ErrArg {
			t.Errorf("%d", e)
		}
		if _, e := trie.Put(x, "a", "b"); e != api.ErrArg {
			t.Errorf("%d", e)
		}
	}
}
