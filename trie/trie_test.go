package trie_test

import (
	"encoding/hex"
	"fmt"
	"maps"
	"math/rand/v2"
	"slices"
	"strings"
	"testing"
	"unsafe"

	"ecclesia/api"
	"ecclesia/keccak"
	"ecclesia/trie"
)

// text is bytes of all kinds, the same ones at each run.
func text(size int) string {
	made := make([]byte, size)
	rand.NewChaCha8([32]byte{10}).Read(made)
	return string(made)
}

// same says if two tries are alike.
func same(a, b api.Trie) bool { return a.Root == b.Root && slices.Equal(a.Nodes, b.Nodes) }

// shown is a trie, short enough for a message.
func shown(x api.Trie) string {
	var made strings.Builder
	for i, n := range x.Nodes {
		if i == 12 {
			made.WriteString(" ..")
			break
		}
		fmt.Fprintf(&made, " %d:{%d %.40x %.20x %v}", i, n.Kind, n.Part, n.Value, n.Kids)
	}
	return fmt.Sprintf("%d nodes, root %d%s", len(x.Nodes), x.Root, made.String())
}

// put is the trie in which a key has such a value.
func put(t *testing.T, x api.Trie, key, value string) api.Trie {
	t.Helper()
	made, e := trie.Put(x, key, value)
	if e != api.OK {
		t.Fatalf("Put of %.80x, %d bytes: %d", key, len(value), e)
	}
	return made
}

// made is the trie of pairs, put one behind the other.
func made(t *testing.T, pairs map[string]string) api.Trie {
	t.Helper()
	x := trie.New()
	for _, one := range rising(pairs) {
		x = put(t, x, one.Key, one.Value)
	}
	return x
}

// holds holds that a trie is that of these pairs, by each call that only looks.
func holds(t *testing.T, x api.Trie, pairs map[string]string) {
	t.Helper()
	if want := plainTrie(pairs); !same(x, want) {
		t.Fatalf("of %d pairs:\n%s\nnot\n%s", len(pairs), shown(x), shown(want))
	}
	if !trie.Right(x) {
		t.Fatalf("it may not be: %s", shown(x))
	}
	if list, e := trie.Pairs(x); !slices.Equal(list, rising(pairs)) || e != api.OK {
		t.Fatalf("Pairs = %.80x, %d, not %.80x", list, e, rising(pairs))
	}
	for key, value := range pairs {
		got(t, x, key, value, true)
	}
	if sum, e := trie.Root(x); sum != plainRoot(pairs) || e != api.OK {
		t.Fatalf("Root of %d pairs = %x, %d, not %x", len(pairs), sum, e, plainRoot(pairs))
	}
}

// got holds what Get answers against what is wanted.
func got(t *testing.T, x api.Trie, key, want string, found bool) {
	t.Helper()
	if value, is := trie.Get(x, key); value != want || is != found {
		t.Fatalf("Get(%.80x) = %.20x, %t, not %.20x, %t", key, value, is, want, found)
	}
}

// putting holds that Put answers an error.
func putting(t *testing.T, x api.Trie, key, value string, errno api.Errno) {
	t.Helper()
	if y, e := trie.Put(x, key, value); e != errno || !same(y, api.Trie{}) {
		t.Fatalf("Put of %d bytes %.80x, %d bytes = %s, %d, not %d", len(key), key, len(value), shown(y), e, errno)
	}
}

// deleting holds that Delete answers an error.
func deleting(t *testing.T, x api.Trie, key string, errno api.Errno) {
	t.Helper()
	if y, e := trie.Delete(x, key); e != errno || !same(y, api.Trie{}) {
		t.Fatalf("Delete of %.80x = %s, %d, not %d", key, shown(y), e, errno)
	}
}

// refused holds that a trie may not be, by each call.
func refused(t *testing.T, x api.Trie) {
	t.Helper()
	if trie.Right(x) {
		t.Fatalf("it may be: %s", shown(x))
	}
	if list, e := trie.Pairs(x); len(list) > 0 || e != api.ErrArg {
		t.Fatalf("Pairs of %s = %.80x, %d", shown(x), list, e)
	}
	for _, key := range []string{"", "a"} {
		got(t, x, key, "", false)
		putting(t, x, key, "value", api.ErrArg)
		deleting(t, x, key, api.ErrArg)
	}
	if sum, e := trie.Root(x); sum != "" || e != api.ErrArg {
		t.Fatalf("Root of %s = %x, %d", shown(x), sum, e)
	}
}

// judged holds whether a trie may be against what the chapter says.
func judged(t *testing.T, x api.Trie) bool {
	t.Helper()
	pairs, is := plainPairs(x)
	if is {
		holds(t, x, pairs)
	} else {
		refused(t, x)
	}
	return is
}

// kids is those of a node, by their half bytes; there are no others.
func kids(some map[int]int) [16]int {
	list := nowhere
	for half, at := range some {
		list[half] = at
	}
	return list
}

// leaf, joint and branch are nodes.
func leaf(part, value string) api.Node {
	return api.Node{Kind: api.TLeaf, Part: part, Value: value, Kids: nowhere}
}

func joint(part string, kid int) api.Node {
	return api.Node{Kind: api.TJoint, Part: part, Kids: kids(map[int]int{0: kid})}
}

func branch(value string, some map[int]int) api.Node {
	return api.Node{Kind: api.TBranch, Value: value, Kids: kids(some)}
}

// trieOf is nodes as a trie, the last one the topmost.
func trieOf(nodes ...api.Node) api.Trie { return api.Trie{Nodes: nodes, Root: len(nodes) - 1} }

// TestNew is for P10.1: the trie of no pairs.
func TestNew(t *testing.T) {
	x := trie.New()
	if len(x.Nodes) != 0 || x.Root != -1 {
		t.Errorf("New() = %s", shown(x))
	}
	holds(t, x, nil)
	holds(t, api.Trie{Nodes: []api.Node{}, Root: -1}, nil)
	got(t, x, "", "", false)
	got(t, x, "a", "", false)
	deleting(t, x, "", api.ErrZero)
	deleting(t, x, "a", api.ErrZero)
	refused(t, api.Trie{})
	refused(t, api.Trie{Root: -2})
	refused(t, api.Trie{Root: 1})
}

// TestNodes is for P10.2: tries, node by node.
func TestNodes(t *testing.T) {
	cases := []struct {
		pairs map[string]string
		want  api.Trie
	}{
		{map[string]string{"a": "1"}, trieOf(leaf("\x06\x01", "1"))},
		{map[string]string{"a": "1", "b": "2"}, trieOf(leaf("", "1"), leaf("", "2"), branch("", map[int]int{1: 0, 2: 1}), joint("\x06", 2))},
		{map[string]string{"a": "1", "q": "2"}, trieOf(leaf("\x01", "1"), leaf("\x01", "2"), branch("", map[int]int{6: 0, 7: 1}))},
		{map[string]string{"a": "1", "ab": "2"}, trieOf(leaf("\x02", "2"), branch("1", map[int]int{6: 0}), joint("\x06\x01", 1))},
		{map[string]string{"\x00": "0", "\xff": "f"}, trieOf(leaf("\x00", "0"), leaf("\x0f", "f"), branch("", map[int]int{0: 0, 15: 1}))},
		{
			map[string]string{"a": "1", "b": "2", "ba": "3", "q": "4"},
			trieOf(
				leaf("", "1"), leaf("\x01", "3"), branch("2", map[int]int{6: 1}), branch("", map[int]int{1: 0, 2: 2}),
				leaf("\x01", "4"), branch("", map[int]int{6: 3, 7: 4}),
			),
		},
		{
			map[string]string{"do": "verb", "dog": "puppy", "doge": "coin", "horse": "stallion"},
			trieOf(
				leaf("\x05", "coin"), branch("puppy", map[int]int{6: 0}), joint("\x07", 1), branch("verb", map[int]int{6: 2}),
				joint("\x06\x0f", 3), leaf("\x06\x0f\x07\x02\x07\x03\x06\x05", "stallion"), branch("", map[int]int{4: 4, 8: 5}), joint("\x06", 6),
			),
		},
	}
	for _, c := range cases {
		if x := made(t, c.pairs); !same(x, c.want) {
			t.Errorf("of %v:\n%s\nnot\n%s", c.pairs, shown(x), shown(c.want))
		}
		holds(t, c.want, c.pairs)
	}
}

// TestRoots is for P10.3: the chapter's example, and sums that others have told.
func TestRoots(t *testing.T) {
	cases := []struct {
		pairs map[string]string
		want  string
	}{
		{nil, "56e81f171bcc55a6ff8345e692c0f86e5b48e01b996cadc001622fb5e363b421"},
		{map[string]string{"doe": "reindeer", "dog": "puppy", "dogglesworth": "cat"}, "8aad789dff2f538bca5d8ea56e8abe10f4c7ba3a5dea95fea4cd6e7c3a1168d3"},
		{map[string]string{"A": strings.Repeat("a", 50)}, "d23786fb4a010da3ce639d66d5e904a11dbc02746d1ce25029e53290cabf28ab"},
		{map[string]string{"do": "verb", "horse": "stallion", "doge": "coin", "dog": "puppy"}, "5991bb8c6514148a29db676a14ac506cd2cd5775ace63c30a4fe457715e9ac84"},
		{map[string]string{"be": "e", "dog": "puppy", "bed": "d"}, "3f67c7a47520f79faa29255d2d3c084a7a6df0453116ed7232ff10277a8be68b"},
		{map[string]string{"test": "test", "te": "testy"}, "8452568af70d8d140f58d941338542f645fcca50094b20f3c3d8c3df49337928"},
		{map[string]string{"\x00\x45": "\x01\x23\x45\x67\x89", "\x45\x00": "\x98\x76\x54\x32\x10"}, "285505fcabe84badc8aa310e2aae17eddc7d120aabec8a476902c8184b3a3503"},
		{map[string]string{"abc": "abc", "abcd": "abcd"}, "7a320748f780ad9ad5b0837302075ce0eeba6c26e3d8562c67ccc0f1b273298a"},
		{map[string]string{
			"key1aa": "0123456789012345678901234567890123456789xxx", "key1": "0123456789012345678901234567890123456789Very_Long",
			"key2bb": "aval3", "key2": "short", "key3cc": "aval3", "key3": "1234567890123456789012345678901",
		}, "cb65032e2f76c48b82b5c24b3db8f670ce73982869d38cd39a624f23d62a9e89"},
	}
	for _, c := range cases {
		x := made(t, c.pairs)
		sum, e := trie.Root(x)
		if hex.EncodeToString([]byte(sum)) != c.want || e != api.OK {
			t.Errorf("Root of %v = %x, %d, not %s", c.pairs, sum, e, c.want)
		}
		holds(t, x, c.pairs)
	}
}

// TestRootNumbers is for P10.3: the sum of what a list of items has by their
// numbers, written, as others have told.
func TestRootNumbers(t *testing.T) {
	// One pair alone: its leaf is the list of its part, packed, and its value.
	x := put(t, trie.New(), "\x80", "v")
	if sum, e := trie.Root(x); sum != keccak.Sum("\xc4\x82\x20\x80v") || e != api.OK {
		t.Errorf("Root = %x, %d", sum, e)
	}
	// Two: a branch of two leaves that are short, and stand in it themselves.
	x = put(t, x, "\x10", "w")
	want := keccak.Sum("\xd5\x80\xc2\x30w\x80\x80\x80\x80\x80\x80\xc2\x30v\x80\x80\x80\x80\x80\x80\x80\x80")
	if sum, e := trie.Root(x); sum != want || e != api.OK {
		t.Errorf("Root = %x, %d, not %x", sum, e, want)
	}
}

// TestTold is for P10.3: values of all lengths, so that leaves, joints and
// branches have fewer bytes than 32, as many, and more.
func TestTold(t *testing.T) {
	sums := map[string]int{}
	for size := range 500 {
		value := text(size + 1)
		for i, pairs := range []map[string]string{
			{"a": value},
			{"a": value, "b": "1"},
			{"a": value, "q": "1"},
			{"a": "1", "ab": value},
			{"a": value, "ab": "1"},
			{"a": "1", "b": "2", "q": value},
			{"aaaa": value, "aaab": value, "q": value},
			{"abc": "1", "abd": value[:1], "bbc": "2", "bbd": value, "q": "\x00"},
		} {
			x := made(t, pairs)
			holds(t, x, pairs)
			sum, _ := trie.Root(x)
			if sums[sum]++; sums[sum] > 1 {
				t.Fatalf("two tries have the sum %x, of %d bytes, case %d", sum, size+1, i)
			}
		}
	}
}

// pool is keys that are beginnings of each other, and begin alike in whole bytes
// and in half ones.
func pool() []string {
	return []string{"a", "ab", "abc", "abd", "ac", "b", "q", "\x00", "\x00\x00", "\x0f", "\xff", "abcdefgh"}
}

// TestSome is for P10.1 to P10.3: the tries of all sets of the pool's keys, and
// each key got of each of them.
func TestSome(t *testing.T) {
	keys := pool()
	for set := range 1 << len(keys) {
		pairs := map[string]string{}
		for i, key := range keys {
			if set>>i&1 == 1 {
				pairs[key] = "v" + key
			}
		}
		x := made(t, pairs)
		holds(t, x, pairs)
		for _, key := range keys {
			got(t, x, key, pairs[key], pairs[key] != "")
		}
	}
}

// TestOrders is for P10.4: all orders in which five keys come, and in which they
// go again; each one is deleted of each trie on the way.
func TestOrders(t *testing.T) {
	keys := []string{"a", "ab", "abc", "ac", "q"}
	var all func(x api.Trie, in map[string]string, left []string)
	all = func(x api.Trie, in map[string]string, left []string) {
		holds(t, x, in)
		for i, key := range left {
			rest := slices.Delete(slices.Clone(left), i, i+1)
			more := maps.Clone(in)
			more[key] = "of " + key
			y := put(t, x, key, "of "+key)
			back, e := trie.Delete(y, key)
			if !same(back, x) || e != api.OK {
				t.Fatalf("%q put and deleted: %s, %d, not %s", key, shown(back), e, shown(x))
			}
			all(y, more, rest)
		}
	}
	all(trie.New(), map[string]string{}, keys)
}

// TestDeeds is for P10.4: long plays of puts and deletes, held against a map.
func TestDeeds(t *testing.T) {
	source := rand.New(rand.NewPCG(10, 4))
	for play := range 12 {
		pairs := map[string]string{}
		x := trie.New()
		for i := range 250 {
			key := randomKey(source, play)
			before := x
			var e api.Errno
			_, is := pairs[key]
			if source.IntN(3) == 0 {
				if x, e = trie.Delete(before, key); !is {
					deleting(t, before, key, api.ErrZero)
					x, e = before, api.OK
				}
				delete(pairs, key)
			} else {
				value := text(1 + source.IntN(40))
				if x, e = trie.Put(before, key, value); !is && len(pairs) == 64 {
					putting(t, before, key, value, api.ErrLong)
					x, e = before, api.OK
				} else {
					pairs[key] = value
				}
			}
			if e != api.OK {
				t.Fatalf("play %d: %d", play, e)
			}
			if want := plainTrie(pairs); !same(x, want) {
				t.Fatalf("of %d pairs:\n%s\nnot\n%s", len(pairs), shown(x), shown(want))
			}
			if i%10 == 9 {
				holds(t, x, pairs)
			}
			got(t, x, key, pairs[key], pairs[key] != "")
		}
		if play == 0 && len(pairs) < 60 {
			t.Errorf("play %d ends with %d pairs", play, len(pairs))
		}
	}
}

// randomKey is a key of a play: of bytes that are few, or many.
func randomKey(source *rand.Rand, play int) string {
	few := []string{"\x00", "\x01", "\x10", "\x11", "\xff"}
	key := ""
	for len(key) == 0 || len(key) < 32 && source.IntN(2+play) > 0 {
		if play%3 == 0 {
			key += string([]byte{byte(source.IntN(256))})
		} else {
			key += few[source.IntN(2+play%4)]
		}
	}
	return key
}

// bits is a key of so many bytes, each 0 or 1, that has a number's bits.
func bits(n, size int) string {
	made := make([]byte, size)
	for i := range made {
		made[i] = byte(n >> (size - 1 - i) & 1)
	}
	return string(made)
}

// TestMost is for P10.1 and P10.2: 64 keys, such as make the most nodes, or the
// deepest ones, and one more.
func TestMost(t *testing.T) {
	sets := map[string]func(i int) string{
		"most nodes": func(i int) string { return bits(i, 6) },
		"two bytes":  func(i int) string { return bits(i, 6) + "\x00" + bits(63-i, 6) },
		"one byte":   func(i int) string { return string([]byte{byte(i * 4)}) },
		"long":       func(i int) string { return strings.Repeat("k", 31) + string([]byte{byte(i)}) },
		"sums":       func(i int) string { return keccak.Sum(bits(i, 6)) },
		"deep": func(i int) string {
			if i < 32 {
				return strings.Repeat("\x11", i+1)
			}
			return strings.Repeat("\x11", i-32) + "\x12"
		},
	}
	for name, keyOf := range sets {
		pairs := map[string]string{}
		x := trie.New()
		for i := range 64 {
			key, value := keyOf(i), text(1+(i*37)%500)
			pairs[key] = value
			x = put(t, x, key, value)
			holds(t, x, pairs)
		}
		if len(pairs) != 64 {
			t.Fatalf("%s: %d pairs", name, len(pairs))
		}
		if name == "most nodes" && len(x.Nodes) != 190 {
			t.Errorf("%s: %d nodes", name, len(x.Nodes))
		}
		full(t, x, pairs, keyOf(20))
	}
}

// full holds what is put into a trie of 64 pairs, one of which has that key.
func full(t *testing.T, x api.Trie, pairs map[string]string, key string) {
	t.Helper()
	putting(t, x, "another", "v", api.ErrLong)
	putting(t, x, text(32), text(500), api.ErrLong)
	putting(t, x, "", "v", api.ErrArg)
	putting(t, x, "another", "", api.ErrArg)
	putting(t, x, text(33), "v", api.ErrArg)
	putting(t, x, "another", text(501), api.ErrArg)
	putting(t, x, key, "", api.ErrArg)
	putting(t, x, key, text(501), api.ErrArg)
	more := maps.Clone(pairs)
	more[key] = "unlike"
	holds(t, put(t, x, key, "unlike"), more)
	delete(more, key)
	y, e := trie.Delete(x, key)
	if e != api.OK {
		t.Fatalf("Delete of %x: %d", key, e)
	}
	holds(t, y, more)
	more["another"] = "v"
	y = put(t, y, "another", "v")
	holds(t, y, more)
	putting(t, y, key, pairs[key], api.ErrLong)
}

// TestPutArg is for P10.2: keys and values of all lengths.
func TestPutArg(t *testing.T) {
	some := made(t, map[string]string{"a": "1", "ab": "2", "\xff": "3"})
	for _, x := range []api.Trie{trie.New(), some} {
		for size := range 40 {
			key := text(size)
			if size < 1 || size > 32 {
				putting(t, x, key, "v", api.ErrArg)
				putting(t, x, key, "", api.ErrArg)
				continue
			}
			pairs, _ := plainPairs(x)
			pairs[key] = "v"
			holds(t, put(t, x, key, "v"), pairs)
			putting(t, x, key, "", api.ErrArg)
		}
		for _, size := range []int{0, 1, 2, 31, 32, 33, 55, 56, 255, 256, 499, 500, 501, 502, 1000, 65536} {
			pairs, _ := plainPairs(x)
			pairs["key"] = text(size)
			if size < 1 || size > 500 {
				putting(t, x, "key", pairs["key"], api.ErrArg)
				putting(t, x, "ab", pairs["key"], api.ErrArg)
				continue
			}
			holds(t, put(t, x, "key", pairs["key"]), pairs)
		}
		putting(t, x, text(1<<20), "v", api.ErrArg)
		putting(t, x, "key", text(1<<20), api.ErrArg)
	}
}

// TestPutAgain is for P10.2: a key that is put again has its new value, others
// theirs.
func TestPutAgain(t *testing.T) {
	pairs := map[string]string{}
	for _, key := range pool() {
		pairs[key] = "old"
	}
	x := made(t, pairs)
	for _, key := range pool() {
		if y := put(t, x, key, "old"); !same(x, y) {
			t.Errorf("%x put with its own value: %s", key, shown(y))
		}
		more := maps.Clone(pairs)
		more[key] = "new"
		holds(t, put(t, x, key, "new"), more)
	}
}

// TestAbsent is for P10.1 and P10.2: keys that no pair has: beginnings of
// others, others with more, those that go another way, and those that no pair
// may have.
func TestAbsent(t *testing.T) {
	x := made(t, map[string]string{"abcd": "1", "abcdef": "2", "abd": "3", "\x00": "4", "q": "5", strings.Repeat("k", 32): "6"})
	absent := []string{
		"", "a", "ab", "abc", "abce", "abcde", "abcdefg", "abdd", "abe", "b", "p", "r", "qq", "\x01", "\x10", "\x00\x00", "\xff",
		"abcdeg", "abcdff", "Abcd", strings.Repeat("k", 31), strings.Repeat("k", 33), strings.Repeat("k", 31) + "l", text(32), text(500),
	}
	for _, key := range absent {
		got(t, x, key, "", false)
		deleting(t, x, key, api.ErrZero)
	}
}

// TestDelete is for P10.2 and P10.4: each key goes alone, and all go, one behind
// the other, from either end.
func TestDelete(t *testing.T) {
	pairs := map[string]string{}
	for i, key := range pool() {
		pairs[key] = strings.Repeat("v", i+1)
	}
	whole := made(t, pairs)
	for key := range pairs {
		more := maps.Clone(pairs)
		delete(more, key)
		x, e := trie.Delete(whole, key)
		if e != api.OK {
			t.Fatalf("Delete of %x: %d", key, e)
		}
		holds(t, x, more)
		got(t, x, key, "", false)
		deleting(t, x, key, api.ErrZero)
	}
	list := rising(pairs)
	for range 2 {
		slices.Reverse(list)
		x, left := whole, maps.Clone(pairs)
		for _, one := range list {
			var e api.Errno
			if x, e = trie.Delete(x, one.Key); e != api.OK {
				t.Fatalf("Delete of %x: %d", one.Key, e)
			}
			delete(left, one.Key)
			holds(t, x, left)
		}
		if !same(x, trie.New()) {
			t.Errorf("all gone: %s", shown(x))
		}
	}
}

// TestAlone is for R1 and R4: no call changes a trie that it was handed, and no
// answer shares nodes or pairs with another.
func TestAlone(t *testing.T) {
	pairs := map[string]string{"a": "1", "ab": "2", "abc": "3", "q": "4"}
	x := made(t, pairs)
	spoil := func(y api.Trie) {
		clear(y.Nodes)
		clear(y.Nodes[:cap(y.Nodes)])
	}
	for _, key := range []string{"a", "abc", "new"} {
		y, _ := trie.Put(x, key, "other")
		spoil(y)
		holds(t, x, pairs)
		y, _ = trie.Put(x, key, pairs[key])
		spoil(y)
		holds(t, x, pairs)
		y, _ = trie.Delete(x, key)
		spoil(y)
		holds(t, x, pairs)
	}
	list, _ := trie.Pairs(x)
	clear(list)
	clear(list[:cap(list)])
	trie.Get(x, "a")
	trie.Root(x)
	holds(t, x, pairs)
	first := trie.New()
	holds(t, put(t, trie.New(), "a", "1"), map[string]string{"a": "1"})
	holds(t, first, nil)
}

// TestOwn is for R4: an answer's texts are its own, so that no long text stays
// for the sake of a short piece of it.
func TestOwn(t *testing.T) {
	key, value := text(32), text(400)
	held := map[*byte]bool{unsafe.StringData(key): true, unsafe.StringData(value): true}
	fresh := func(s string) {
		t.Helper()
		at := unsafe.StringData(s)
		if held[at] {
			t.Errorf("a text of %d bytes is shared", len(s))
		}
		held[at] = true
	}
	x := put(t, trie.New(), key, value)
	fresh(x.Nodes[0].Value)
	list, _ := trie.Pairs(x)
	fresh(list[0].Key)
	fresh(list[0].Value)
	one, _ := trie.Get(x, key)
	fresh(one)
	y := put(t, x, "another", value)
	fresh(y.Nodes[0].Value)
	fresh(y.Nodes[1].Value)
	y, _ = trie.Delete(y, "another")
	fresh(y.Nodes[0].Value)
	fresh(put(t, x, key, value).Nodes[0].Value)
}

// FuzzDeeds is for P10.1 to P10.4: keys that come and go, by any bytes, and
// tries of which one node was changed.
func FuzzDeeds(f *testing.F) {
	f.Add("a1b2ab3", byte(0), 0)
	f.Add("\x01\x00\x01\x10\x02\x00\x00", byte(3), 1)
	f.Add("aaaaaaaaabacadb", byte(7), 2)
	f.Fuzz(func(t *testing.T, plan string, field byte, number int) {
		pairs := map[string]string{}
		x := trie.New()
		for len(plan) > 2 && len(plan) < 400 {
			size := min(1+int(plan[0]&3), len(plan)-1)
			key, away := plan[1:1+size], plan[0]&4 != 0
			plan = plan[1+size:]
			if _, is := pairs[key]; away && is {
				x, _ = trie.Delete(x, key)
				delete(pairs, key)
			} else if is || len(pairs) < 64 {
				pairs[key] = key + "="
				x = put(t, x, key, key+"=")
			}
		}
		holds(t, x, pairs)
		if len(x.Nodes) > 0 {
			judged(t, changed(x, int(field)%len(x.Nodes), int(field), number))
		}
	})
}

// common is a trie of 24 pairs, the keys of which are sums.
func common(b *testing.B) api.Trie {
	b.Helper()
	x := trie.New()
	for i := range 24 {
		x, _ = trie.Put(x, keccak.Sum(bits(i, 6)), text(20))
	}
	return x
}

func BenchmarkPut(b *testing.B) {
	x, key := common(b), keccak.Sum("new")
	for b.Loop() {
		trie.Put(x, key, "value")
	}
}

func BenchmarkGet(b *testing.B) {
	x := common(b)
	for b.Loop() {
		trie.Get(x, "none")
	}
}

func BenchmarkRoot(b *testing.B) {
	x := common(b)
	for b.Loop() {
		trie.Root(x)
	}
}
