package vset_test

import (
	"fmt"
	"math"
	"math/bits"
	"math/rand/v2"
	"slices"
	"strings"
	"testing"
	"unsafe"

	"ecclesia/api"
	"ecclesia/header"
	"ecclesia/vote"
	"ecclesia/vset"
)

// TestQuorumTold is for P20.1: numbers that are written out, and the edges.
func TestQuorumTold(t *testing.T) {
	for _, c := range [][3]int{
		// The chapter's examples.
		{1, 1, 0}, {4, 3, 1}, {7, 5, 2},
		{2, 2, 0}, {3, 2, 0}, {5, 4, 1}, {6, 4, 1}, {8, 6, 2}, {9, 6, 2}, {10, 7, 3}, {11, 8, 3}, {12, 8, 3}, {13, 9, 4}, {14, 10, 4}, {15, 10, 4}, {16, 11, 5}, {100, 67, 33},
		{0, 0, 0}, {-1, 0, 0}, {-2, 0, 0}, {-3, 0, 0}, {-4, 0, 0}, {-1000000, 0, 0}, {-1000001, 0, 0}, {math.MinInt, 0, 0}, {math.MinInt + 1, 0, 0}, {math.MinInt / 2, 0, 0}, {math.MinInt/2 - 1, 0, 0},
		{999997, 666665, 333332}, {999998, 666666, 333332}, {999999, 666666, 333332}, {1000000, 666667, 333333},
		{1000001, 666667, 333333}, {1000002, 666667, 333333}, {1500000, 666667, 333333}, {2000000, 666667, 333333}, {math.MaxInt32, 666667, 333333}, {math.MaxInt, 666667, 333333},
		{math.MaxInt - 1, 666667, 333333}, {math.MaxInt / 2, 666667, 333333}, {math.MaxInt/2 + 1, 666667, 333333}, {math.MaxInt / 3, 666667, 333333},
	} {
		if q, f := vset.Quorum(c[0]), vset.Faults(c[0]); q != c[1] || f != c[2] {
			t.Errorf("of %d: %d, %d, not %d, %d", c[0], q, f, c[1], c[2])
		}
		if q, f := plainQuorum(c[0]), plainFaults(c[0]); q != c[1] || f != c[2] {
			t.Errorf("plainly of %d: %d, %d, not %d, %d", c[0], q, f, c[1], c[2])
		}
	}
}

// TestQuorumAll is for P20.1 and P20.5: all that count, and some beyond. Any two
// quorums have more in common than may be false, even if the rest of each is all that
// the other one hasn't.
func TestQuorumAll(t *testing.T) {
	for n := -2000; n < 3000; n++ {
		if q, f := vset.Quorum(n), vset.Faults(n); q != plainQuorum(n) || f != plainFaults(n) {
			t.Fatalf("of %d: %d, %d", n, q, f)
		}
	}
	for n := 1; n <= 1000000; n++ {
		q, f := vset.Quorum(n), vset.Faults(n)
		if 3*q < 2*n || 3*(q-1) >= 2*n || 3*f >= n || 3*(f+1) < n {
			t.Fatalf("of %d: %d, %d", n, q, f)
		}
		if q+q-n <= f || n-f < q || q-f <= f || q < 1 || q > n || f < 0 {
			t.Fatalf("of %d: %d, %d", n, q, f)
		}
	}
	for n := 1000000; n < 1010000; n++ {
		if q, f := vset.Quorum(n), vset.Faults(n); q != 666667 || f != 333333 {
			t.Fatalf("of %d: %d, %d", n, q, f)
		}
	}
}

// TestQuorumsMeet is for P20.5: all quorums of few, as sets of bits.
func TestQuorumsMeet(t *testing.T) {
	for n := 1; n <= 9; n++ {
		q, f := vset.Quorum(n), vset.Faults(n)
		for one := range uint(1 << n) {
			if bits.OnesCount(one) <= f && n-bits.OnesCount(one) < q {
				t.Fatalf("of %d, those without %b are no quorum", n, one)
			}
			if bits.OnesCount(one) < q {
				continue
			}
			for other := range uint(1 << n) {
				if bits.OnesCount(other) >= q && bits.OnesCount(one&other) <= f {
					t.Fatalf("of %d, %b and %b have too few in common", n, one, other)
				}
				if bits.OnesCount(other) <= f && bits.OnesCount(one&^other) <= f {
					t.Fatalf("of %d, %b without %b are too few", n, one, other)
				}
			}
		}
	}
}

// heights are some of all sizes.
func heights() []uint64 {
	list := []uint64{0, 1, 2, 3, 4, 5, 16, 17, 255, 256, 1000, 1 << 31, 1<<32 - 1, 1 << 32, 1<<63 - 1, 1 << 63, 1<<63 + 1}
	for i := range uint64(20) {
		list = append(list, most-i)
	}
	return list
}

// TestProposer is for P20.2: any heights and rounds, of sets of all sizes, also such
// as may not be.
func TestProposer(t *testing.T) {
	sets := append(badSets(), []string{"", "x"}, []string{"c", "a", "b"}, setOf("zzyyx"))
	for size := range 18 {
		sets = append(sets, setOf(letters(size)))
	}
	for _, size := range []int{100, 1000, 65537} {
		var many []string
		for i := range size {
			many = append(many, fmt.Sprintf("%d", i))
		}
		sets = append(sets, many)
	}
	for _, set := range sets {
		for _, height := range heights() {
			for _, round := range heights() {
				got, e := vset.Proposer(set, height, round)
				want, errno := plainProposer(set, height, round)
				if got != want || e != errno {
					t.Fatalf("Proposer of %s, %d, %d answers %s, %d, not %s, %d", shorts(set), height, round, short(got), e, short(want), errno)
				}
			}
		}
	}
}

// TestProposerTold is for P20.2: whose turn it is, written out, with sums that go
// round, and that it is refused of no one.
func TestProposerTold(t *testing.T) {
	for _, c := range []struct {
		set           string
		height, round uint64
		want          string
	}{
		{"ab", 3, 2, "b"}, {"ab", 3, 3, "a"}, {"a", 0, 0, "a"}, {"a", 5, 9, "a"}, {"a", most, most, "a"}, {"abcd", 0, 0, "a"}, {"abcd", 1, 0, "b"}, {"abcd", 1, 1, "c"}, {"abcd", 1, 2, "d"}, {"abcd", 1, 3, "a"},
		{"abcd", 0, 1, "b"}, {"abcd", 4, 0, "a"}, {"abc", 4, 0, "b"}, {"abc", 3, 2, "c"}, {"abc", 1 << 63, 0, "c"}, {"abc", 1 << 32, 0, "b"}, {"abcde", 1 << 32, 0, "b"}, {"abcde", 1<<32 + 1, 1 << 33, "e"},
		// 2^64 - 1 is a multiple of 3, of 5 and of 15, and 0 is next behind it.
		{"abc", most, 0, "a"}, {"abc", most - 1, 1, "a"}, {"abc", most - 1, 0, "c"}, {"abc", most, 1, "a"}, {"abc", most, 2, "b"}, {"abc", most, 3, "c"}, {"abc", 1, most, "a"}, {"abc", most, most, "c"},
		{"abc", 1 << 63, 1 << 63, "a"}, {"abc", 1 << 63, 1<<63 - 1, "a"}, {"abc", 1 << 63, 1<<63 + 1, "b"}, {"abcde", most, 0, "a"}, {"abcde", most, 3, "c"}, {"abcdefg", most, 0, "b"}, {"abcdefg", most, 1, "a"},
		{letters(16), 15, 0, "p"}, {letters(16), 15, 1, "a"}, {letters(16), most, 0, "p"}, {letters(16), most, 1, "a"}, {letters(16), most, most, "o"},
		{"ba", 0, 0, "b"}, {"ba", 1, 0, "a"}, {"cab", 2, 3, "b"}, {"aab", 0, 1, "a"},
	} {
		if got, e := vset.Proposer(setOf(c.set), c.height, c.round); got != of(c.want[0]) || e != api.OK {
			t.Errorf("Proposer of %s, %d, %d answers %s, %d, not %s", c.set, c.height, c.round, short(got), e, c.want)
		}
	}
	for _, set := range [][]string{nil, {}, make([]string, 0, 4), setOf("ab")[:0]} {
		for _, n := range heights() {
			if got, e := vset.Proposer(set, n, most-n); got != "" || e != api.ErrArg {
				t.Errorf("Proposer of none, %d, answers %s, %d", n, short(got), e)
			}
		}
	}
}

// TestTurns is for P20.5: within as many rounds, or heights, as there are validators
// each one has its turn, and just one.
func TestTurns(t *testing.T) {
	for size := 1; size <= 16; size++ {
		set := setOf(letters(size))
		for _, height := range heights() {
			// Where the sum goes round, only as many as divide 2^64 go on in turn.
			if height > most-100 && bits.OnesCount(uint(size)) > 1 {
				continue
			}
			for begin := range uint64(20) {
				rounds, heights := map[string]int{}, map[string]int{}
				for i := range uint64(size) {
					one, _ := vset.Proposer(set, height, begin+i)
					other, _ := vset.Proposer(set, height+i, begin)
					rounds[one]++
					heights[other]++
				}
				for _, one := range set {
					if rounds[one] != 1 || heights[one] != 1 {
						t.Fatalf("of %d, at %d from %d on: %s has %d, %d", size, height, begin, short(one), rounds[one], heights[one])
					}
				}
			}
		}
	}
}

// TestNextTold is for P20.3: what a header makes of validators and votes, written out,
// and how many blocks an epoch has.
func TestNextTold(t *testing.T) {
	for _, c := range []struct {
		set, votes, line string
		epoch            uint64
		want, left       string
	}{
		// No vote leaves all as it is, but for the first block of an epoch.
		{"a", "", "1:a:a", 5, "a", ""}, {"abc", "ba ca xa", "1:abc:c", 5, "abc", "ba ca xa"}, {"abc", "ba ca xa", "4:abc:c", 5, "abc", "ba ca xa"}, {"abc", "ba ca xa", "5:abc:c", 5, "abc", ""},
		{"abc", "ba ca xa", "6:abc:c", 5, "abc", "ba ca xa"}, {"abc", "ba ca xa", "10:abc:a", 5, "abc", ""}, {"abc", "ba ca xa", "0:abc:a", 5, "abc", ""}, {"abc", "ba ca xa", "0:abc:a", 1, "abc", ""},
		{"abc", "ba ca xa", "0:abc:a", most, "abc", ""}, {"abc", "ba ca xa", "18446744073709551615:abc:b", most, "abc", ""}, {"abc", "ba ca xa", "18446744073709551614:abc:b", most, "abc", "ba ca xa"},
		{"abc", "ba ca xa", "18446744073709551615:abc:b", 3, "abc", ""}, {"abc", "ba ca xa", "18446744073709551615:abc:b", 2, "abc", "ba ca xa"}, {"abc", "ba ca xa", "18446744073709551615:abc:b", 1 << 63, "abc", "ba ca xa"},
		{"abc", "ba ca xa", "9223372036854775808:abc:b", 1 << 63, "abc", ""}, {"abc", "ba ca xa", "4294967296:abc:b", 1 << 33, "abc", "ba ca xa"}, {"abc", "ba ca xa", "8589934592:abc:b", 1 << 32, "abc", ""},
		{"abc", "ba ca xa", "7:abc:c", 1, "abc", ""}, {"abc", "", "5:abc:c", 5, "abc", ""}, {"abc", "ba ca xa", "3:abc:c", 6, "abc", "ba ca xa"},
		// A vote of its proposer.
		{"a", "", "1:a:a+b", 5, "ab", ""}, {"b", "", "1:b:b+a", 5, "ab", ""}, {"ab", "", "1:ab:a+c", 5, "ab", "ca"}, {"ab", "ca", "2:ab:b+c", 5, "abc", ""}, {"ab", "ca", "2:ab:a+c", 5, "ab", "ca"},
		{"ab", "ca", "2:ab:b+d", 5, "ab", "ca db"}, {"abc", "", "3:abc:b-c", 5, "abc", "cb"}, {"abc", "cb", "4:abc:c-c", 5, "ab", ""}, {"abc", "cb", "4:abc:a-c", 5, "ab", ""},
		{"abcd", "da db xa xb yc", "3:abcd:c-d", 5, "abc", "yc"}, {"abcd", "aa xa xb yc zd", "3:abcd:d+x", 5, "abcdx", "aa yc zd"}, {"ab", "", "1:ab:a-a", 5, "ab", "aa"}, {"ab", "aa", "2:ab:b-a", 5, "b", ""},
		// The votes ahead of an epoch go first, and then that of the header comes.
		{"ab", "ca", "5:ab:b+c", 5, "ab", "cb"}, {"ab", "ca", "5:ab:a+c", 5, "ab", "ca"}, {"ab", "ca", "0:ab:b+c", 5, "ab", "cb"}, {"ab", "ca", "3:ab:b+c", 1, "ab", "cb"}, {"a", "", "5:a:a+b", 5, "ab", ""},
		{"abcd", "da db xa xb yc", "10:abcd:c-d", 5, "abcd", "dc"}, {"abc", "ab cb xb", "10:abc:a-c", 5, "abc", "ca"},
	} {
		s, h, want := snap(c.set, c.votes), head(c.line), snap(c.want, c.left)
		for _, one := range goodHeads(h) {
			next(t, s, one, c.epoch, want, api.OK)
			plainly(t, s, one, c.epoch)
		}
	}
}

// TestNextErrors is for P20.3: each error, and which comes first, wherever several
// apply.
func TestNextErrors(t *testing.T) {
	source := rand.New(rand.NewPCG(20, 3))
	bad := badSnaps()
	for wrong := range 64 {
		is := func(bit int) bool { return wrong>>bit&1 == 1 }
		for range 20 {
			s, h, epoch := snap("abcd", "xa"), head("6:abcd:b+x"), uint64(5)
			errno := api.OK
			if is(5) {
				errno = api.ErrVote
				h.Add = false
			}
			if is(4) {
				errno = api.ErrTurn
				h.Proposer = of("exyzA\x00\xff"[source.IntN(7)])
			}
			if is(3) {
				errno = api.ErrSet
				h.Validators = setOf([]string{"a", "abc", "abce", "abcde", "bcd", "abd", "abcd\xff", "\x00abcd"}[source.IntN(8)])
			}
			if is(2) {
				errno, epoch = api.ErrArg, 0
			}
			if is(1) {
				errno = api.ErrArg
				heads := badHeads(h)
				h = heads[source.IntN(len(heads))]
			}
			if is(0) {
				errno = api.ErrArg
				s = bad[source.IntN(len(bad))]
			}
			want := api.Snap{}
			if errno == api.OK {
				want = snap("abcd", "xa xb")
			}
			next(t, s, h, epoch, want, errno)
			plainly(t, s, h, epoch)
		}
	}
}

// TestNextWrong is for P20.3: all snaps and headers that may not be, and epochs of
// none.
func TestNextWrong(t *testing.T) {
	for _, s := range badSnaps() {
		for _, l := range []string{"1:ab:a", "1:abcd:a", "0:abcd:a", "5:abcd:b+x", "1:a:a", "1:ab:b-a"} {
			next(t, s, head(l), 5, api.Snap{}, api.ErrArg)
		}
		// Their own validators, whatever these are.
		h := with(head("5:a:a"), func(h *api.Header) { h.Validators = s.Set })
		next(t, s, h, 5, api.Snap{}, api.ErrArg)
		next(t, s, h, 4, api.Snap{}, api.ErrArg)
		plainly(t, s, h, 5)
	}
	for _, s := range goodSnaps() {
		good := with(head("6:a:a"), func(h *api.Header) { h.Validators, h.Proposer = s.Set, s.Set[0] })
		next(t, s, good, 5, s, api.OK)
		next(t, s, good, 0, api.Snap{}, api.ErrArg)
		next(t, s, good, 6, api.Snap{Set: s.Set}, api.OK)
		for _, h := range badHeads(good) {
			if header.Right(h) {
				t.Fatalf("%s may be", line(h))
			}
			next(t, s, h, 5, api.Snap{}, api.ErrArg)
			next(t, s, h, 6, api.Snap{}, api.ErrArg)
			next(t, s, h, 0, api.Snap{}, api.ErrArg)
		}
		good.Height = 0
		next(t, s, good, 0, api.Snap{}, api.ErrArg)
	}
}

// TestNextSet is for P20.3: validators that are not just those, and proposers that
// are none of them.
func TestNextSet(t *testing.T) {
	s := snap("bcd", "xb")
	for _, set := range []string{"b", "bc", "cd", "bd", "abc", "cde", "abcd", "bcde", "bccd", "bce", "acd", letters(16), "\x00"} {
		h := head("1:" + set + ":b")
		want := api.ErrSet
		if !header.Right(h) {
			want = api.ErrArg
		}
		next(t, s, h, 5, api.Snap{}, want)
		next(t, s, with(h, func(h *api.Header) { h.Proposer = of('z') }), 5, api.Snap{}, want)
	}
	near := setOf("bcd")
	near[1] = near[1][:19] + "d"
	next(t, s, with(head("1:bcd:b"), func(h *api.Header) { h.Validators = near }), 5, api.Snap{}, api.ErrSet)
	next(t, s, with(head("1:bcd:b"), func(h *api.Header) { h.Proposer = near[1] }), 5, api.Snap{}, api.ErrTurn)
	for one := range 256 {
		h := with(head("1:bcd:b"), func(h *api.Header) { h.Proposer = of(byte(one)) })
		if one >= 'b' && one <= 'd' {
			// Whose turn it would be has no part in it.
			for _, height := range []uint64{1, 2, 3, 4, 6, 7} {
				next(t, s, with(h, func(h *api.Header) { h.Height = height }), 5, s, api.OK)
			}
			continue
		}
		next(t, s, h, 5, api.Snap{}, api.ErrTurn)
		next(t, s, with(h, func(h *api.Header) { h.Vote, h.Add = of('b'), true }), 5, api.Snap{}, api.ErrTurn)
	}
}

// TestNextVote is for P20.3: votes that may not be cast, also where the votes go
// first.
func TestNextVote(t *testing.T) {
	for _, c := range [][3]string{
		{"abcd", "xa", "6:abcd:b+a"}, {"abcd", "xa", "6:abcd:b+b"}, {"abcd", "xa", "6:abcd:b-x"}, {"abcd", "xa", "5:abcd:b+a"}, {"abcd", "xa", "5:abcd:b-x"}, {"abcd", "xa", "5:abcd:b-y"},
		{"a", "", "6:a:a-a"}, {"a", "", "5:a:a-a"}, {"a", "", "6:a:a+a"}, {"a", "", "6:a:a-b"}, {letters(16), "", "6:" + letters(16) + ":a+x"}, {letters(16), "xa xb", "6:" + letters(16) + ":a+x"},
		{letters(16), "xa xb", "5:" + letters(16) + ":a+x"}, {letters(16), "xa xb", "6:" + letters(16) + ":a+a"}, {letters(16), "xa xb", "6:" + letters(16) + ":p-x"},
	} {
		for _, h := range goodHeads(head(c[2])) {
			next(t, snap(c[0], c[1]), h, 5, api.Snap{}, api.ErrVote)
			plainly(t, snap(c[0], c[1]), h, 5)
		}
	}
	// None is of no address, and so is none of these.
	next(t, snap("a", ""), with(head("1:a:a"), func(h *api.Header) { h.Add = true }), 5, api.Snap{}, api.ErrArg)
}

// TestReach is for P20.3: all that three addresses can make of one another by
// headers, and each header on each of these.
func TestReach(t *testing.T) {
	name := func(s api.Snap) string {
		made := ""
		for _, one := range s.Set {
			made += one[:1]
		}
		for _, one := range s.Votes {
			made += " " + one.Who[:1] + one.Voter[:1]
		}
		return made
	}
	var each []string
	for _, height := range []string{"0", "1", "2", "3"} {
		for _, set := range []string{"a", "b", "c", "ab", "ac", "bc", "abc"} {
			for _, proposer := range []string{"a", "b", "c"} {
				for _, vote := range []string{"", "+a", "-a", "+b", "-b", "+c", "-c"} {
					each = append(each, height+":"+set+":"+proposer+vote)
				}
			}
		}
	}
	line := []api.Snap{snap("a", "")}
	seen := map[string]int{"a": 1}
	counts := map[api.Errno]int{}
	for i := 0; i < len(line); i++ {
		for _, one := range each {
			made, e := plainly(t, line[i], head(one), 2)
			counts[e]++
			if e == api.OK && seen[name(made)] == 0 {
				seen[name(made)] = 1
				line = append(line, made)
			}
		}
	}
	// Of one validator there is no vote; of each of the three pairs, each of three has
	// none or one of two; of three, each has none or one of three.
	if len(line) != 3+3*27+64 || counts[api.ErrSet] == 0 || counts[api.ErrTurn] == 0 || counts[api.ErrVote] == 0 || counts[api.ErrArg] != 0 {
		t.Errorf("%d, %v", len(line), counts)
	}
}

// TestFoldTold is for P20.4: validators, headers, and what they leave, written out.
func TestFoldTold(t *testing.T) {
	for _, c := range [][4]string{
		{"a", "", "a", ""}, {"abc", "", "abc", ""}, {letters(16), "", letters(16), ""},
		{"a", "1:a:a", "a", ""}, {"a", "1:a:a+b", "ab", ""}, {"a", "1:a:a+b 2:ab:b+c", "ab", "cb"}, {"a", "1:a:a+b 2:ab:b+c 3:ab:a+c", "abc", ""}, {"a", "1:a:a+b 2:ab:b+c 3:ab:a+c 4:abc:b-a", "abc", "ab"},
		{"a", "1:a:a+b 2:ab:b+c 3:ab:a+c 4:abc:b-a 6:abc:c-a", "bc", ""},
		// The fifth block is another epoch's.
		{"a", "1:a:a+b 2:ab:b+c 5:ab:a+c", "ab", "ca"}, {"ab", "4:ab:a+c 5:ab:b", "ab", ""}, {"ab", "4:ab:a+c 5:ab:b 6:ab:b+c", "ab", "cb"}, {"ab", "4:ab:a+c 5:ab:b+c 6:ab:a+c", "abc", ""},
		// Heights need not be one more each.
		{"ab", "7:ab:a+c 3:ab:b+d 3:ab:b+d", "ab", "ca db"}, {"ab", "1:ab:a+c 0:ab:a", "ab", ""}, {"ab", "9:ab:a+c 1:ab:b+c", "abc", ""}, {"ab", "18446744073709551615:ab:a+c", "ab", "ca"},
		// The whole's seventh example: three of four wish a fifth in.
		{"abcd", "1:abcd:b+x 2:abcd:c+x", "abcd", "xb xc"}, {"abcd", "1:abcd:b+x 2:abcd:c+x 3:abcd:d+x", "abcdx", ""}, {"abcd", "1:abcd:b+x 2:abcd:c+x 3:abcd:d+x 4:abcdx:a", "abcdx", ""},
		{"abcd", "1:abcd:b+x 2:abcd:c+x 4:abcd:a 5:abcd:d+x", "abcd", "xd"},
		// One that comes in votes, and one that went comes back.
		{"a", "1:a:a+b 2:ab:b-a 3:ab:a-a 4:b:b+a", "ab", ""}, {"a", "1:a:a+b 2:ab:b-a 3:ab:a-a 4:b:b+c 6:bc:c+a 7:bc:b+a", "abc", ""},
	} {
		l := heads(c[1])
		fold(t, setOf(c[0]), l, 5, snap(c[2], c[3]), api.OK)
		folds(t, setOf(c[0]), l, 5)
		parts(t, setOf(c[0]), l, 5)
	}
	// The chapter's, and the whole's: an epoch of one block leaves that block's vote.
	l := heads("1:ab:a+c 2:ab:b+c 3:ab:a+c")
	fold(t, setOf("ab"), l, 1, snap("ab", "ca"), api.OK)
	fold(t, setOf("ab"), l[:2], 1, snap("ab", "cb"), api.OK)
	fold(t, setOf("ab"), l[:2], 2, snap("ab", "cb"), api.OK)
	fold(t, setOf("ab"), l[:2], 3, snap("abc", ""), api.OK)
	fold(t, setOf("ab"), l, most, api.Snap{}, api.ErrSet)
}

// parts holds that headers that are gone through in two parts, at any place, leave
// what they leave at once: those of the second part one by one.
func parts(t *testing.T, set []string, l []api.Header, epoch uint64) {
	t.Helper()
	whole, errno := vset.Fold(set, l, epoch)
	for at := range len(l) + 1 {
		s, e := vset.Fold(set, l[:at], epoch)
		for _, h := range l[at:] {
			if e == api.OK {
				s, e = vset.Next(s, h, epoch)
			}
		}
		if !alike(s, whole) || e != errno {
			t.Fatalf("%d headers of %s in two parts, %d leave %s, %d, not %s, %d", len(l), shorts(set), at, shown(s), e, shown(whole), errno)
		}
	}
}

// TestSame is for P20.3 and P20.4: Fold of one header is Next of validators without
// votes.
func TestSame(t *testing.T) {
	for _, s := range goodSnaps() {
		begin, _ := vote.Close(s)
		for _, add := range []bool{true, false} {
			for _, who := range append(slices.Clone(s.Set), of('~'), "") {
				h := with(head("3:a:a"), func(h *api.Header) { h.Validators, h.Proposer, h.Vote, h.Add = s.Set, s.Set[len(s.Set)-1], who, add })
				for _, epoch := range []uint64{0, 1, 2, 3} {
					want, errno := plainly(t, begin, h, epoch)
					fold(t, s.Set, []api.Header{h}, epoch, want, errno)
					plainly(t, s, h, epoch)
				}
			}
		}
	}
}

// TestFoldErrors is for P20.4: sets that may not be and epochs of none, also without
// a header, and the first error of headers, wherever it is.
func TestFoldErrors(t *testing.T) {
	some := heads("1:ab:a 2:ab:b+c 3:ab:a+c")
	for _, set := range badSets() {
		for many := range 4 {
			for _, epoch := range []uint64{0, 1, 5} {
				fold(t, set, some[:many], epoch, api.Snap{}, api.ErrArg)
			}
		}
		fold(t, set, []api.Header{with(some[0], func(h *api.Header) { h.Validators = set })}, 5, api.Snap{}, api.ErrArg)
	}
	for many := range 4 {
		fold(t, setOf("ab"), some[:many], 0, api.Snap{}, api.ErrArg)
	}
	// Wrong ones, each with its error.
	wrong := []api.Header{{}, head("4:abd:a"), head("4:ab:a"), head("4:abc:d"), head("4:abc:a+a"), head("4:abc:a-z"), with(head("4:abc:a"), func(h *api.Header) { h.Seals = []api.Sig{{}} })}
	errnos := []api.Errno{api.ErrArg, api.ErrSet, api.ErrSet, api.ErrTurn, api.ErrVote, api.ErrVote, api.ErrArg}
	good := append(slices.Clone(some), heads("4:abc:a 5:abc:b+x 6:abc:b+y")...)
	for i, one := range wrong {
		for at := 3; at <= len(good); at++ {
			l := slices.Insert(slices.Clone(good), at, one)
			fold(t, setOf("ab"), l[:at], 5, plainOf(t, "ab", good[:at]), api.OK)
			fold(t, setOf("ab"), l[:at+1], 5, api.Snap{}, errnos[i])
			fold(t, setOf("ab"), l, 5, api.Snap{}, errnos[i])
			parts(t, setOf("ab"), l, 5)
			for j := range wrong {
				fold(t, setOf("ab"), append(slices.Clone(l), wrong[j]), 5, api.Snap{}, errnos[i])
				fold(t, setOf("ab"), slices.Insert(slices.Clone(l), at+1, wrong[j]), 5, api.Snap{}, errnos[i])
			}
		}
	}
	// The first one of all.
	for i, one := range []api.Header{{}, head("1:abc:a"), head("1:ab:c"), head("1:ab:a-x"), head("0:ab:a+a")} {
		want := []api.Errno{api.ErrArg, api.ErrSet, api.ErrTurn, api.ErrVote, api.ErrVote}[i]
		fold(t, setOf("ab"), append([]api.Header{one}, some...), 5, api.Snap{}, want)
		folds(t, setOf("ab"), append([]api.Header{one}, wrong...), 5)
		fold(t, setOf("ab"), append([]api.Header{one}, some...), 0, api.Snap{}, api.ErrArg)
		fold(t, setOf("ba"), append([]api.Header{one}, some...), 5, api.Snap{}, api.ErrArg)
	}
}

// plainOf is what headers that may be plainly leave.
func plainOf(t *testing.T, set string, l []api.Header) api.Snap {
	t.Helper()
	s, e := plainFold(setOf(set), l, 5)
	if e != api.OK {
		t.Fatalf("plainly %d", e)
	}
	return s
}

// some is a header that fits more often than not.
func some(source *rand.Rand, s api.Snap, height uint64) api.Header {
	pick := func(l []string) string { return l[source.IntN(len(l))] }
	all := setOf(letters(18))
	h := api.Header{Parent: hash(byte(height)), Height: height, Root: hash('r'), Txs: hash('t'), Proposer: pick(s.Set), Validators: s.Set, Round: source.Uint64N(3)}
	if source.IntN(6) > 0 {
		h.Vote = pick(all)
		if len(s.Votes) > 0 && source.IntN(3) > 0 {
			h.Vote = s.Votes[source.IntN(len(s.Votes))].Who
		}
		h.Add = !slices.Contains(s.Set, h.Vote)
	}
	switch source.IntN(60) {
	case 0:
		h.Add = !h.Add
	case 1:
		h.Proposer = pick(all)
	case 2:
		h.Validators = setOf(letters(source.IntN(18)))
	case 3:
		h.Vanity = strings.Repeat("v", source.IntN(12))
	}
	return h
}

// TestPlay is for P20.3 to P20.5: long plays of headers, in which sets grow to sixteen
// and fall to one.
func TestPlay(t *testing.T) {
	source := rand.New(rand.NewPCG(20, 4))
	var sizes [17]int
	counts := map[api.Errno]int{}
	for play := range 12 {
		set, epoch := setOf(letters(play%3+1)), []uint64{1 << 40, 400, 40, 7}[play%4]
		s := api.Snap{Set: set}
		var l []api.Header
		for i := range 1600 {
			h := some(source, s, uint64(len(l)+1))
			// By turns they let in and out.
			if h.Vote != "" && h.Add != (i/400%2 == 0) && source.IntN(4) > 0 {
				continue
			}
			made, e := plainly(t, s, h, epoch)
			counts[e]++
			if i%400 == 399 {
				folds(t, set, append(slices.Clone(l), h), epoch)
			}
			if e == api.OK {
				s, l = made, append(l, h)
				sizes[len(s.Set)]++
			}
		}
		fold(t, set, l, epoch, s, api.OK)
		parts(t, set, l[:60], epoch)
	}
	for size, many := range sizes {
		if size > 0 && many == 0 {
			t.Errorf("no set of %d: %v", size, sizes)
		}
	}
	for _, e := range []api.Errno{api.OK, api.ErrArg, api.ErrSet, api.ErrTurn, api.ErrVote} {
		if counts[e] < 10 {
			t.Errorf("%v", counts)
		}
	}
}

// TestLong is for P20.1 to P20.4: very much of anything ends soon.
func TestLong(t *testing.T) {
	many := make([]string, 1<<20)
	many[1<<20-1] = "last"
	if got, e := vset.Proposer(many, 1<<20-2, 1); got != "last" || e != api.OK {
		t.Errorf("Proposer of many answers %s, %d", short(got), e)
	}
	fold(t, many, nil, 1, api.Snap{}, api.ErrArg)
	next(t, api.Snap{Set: many}, head("1:a:a"), 1, api.Snap{}, api.ErrArg)
	next(t, snap("a", ""), with(head("1:a:a"), func(h *api.Header) { h.Validators = many }), 1, api.Snap{}, api.ErrArg)
	next(t, snap("a", ""), with(head("1:a:a"), func(h *api.Header) { h.Seals = make([]api.Sig, 1<<18) }), 1, api.Snap{}, api.ErrArg)
	next(t, snap("a", ""), with(head("1:a:a"), func(h *api.Header) { h.Vote = strings.Repeat("x", 1<<26) }), 1, api.Snap{}, api.ErrArg)
	// Open votes without end, of which each one that votes again leaves all.
	s := snap("abcd", "")
	for i := range 1 << 16 {
		s.Votes = append(s.Votes, api.Ballot{Voter: of('a'), Who: fmt.Sprintf("%020d", i), Add: true})
	}
	next(t, s, head("1:abcd:b"), 5, s, api.OK)
	next(t, s, head("5:abcd:b"), 5, snap("abcd", ""), api.OK)
	next(t, s, head("5:abcd:b+x"), 5, snap("abcd", "xb"), api.OK)
	got, e := vset.Next(s, head("1:abcd:b+x"), 5)
	if len(got.Votes) != 1<<16+1 || e != api.OK {
		t.Errorf("Next of many votes answers %d votes, %d", len(got.Votes), e)
	}
	// Headers without end, with few votes.
	var l []api.Header
	for range 1 << 14 {
		l = append(l, heads("1:ab:a+c 2:ab:b+c 3:abc:a-c 4:abc:b 5:abc:a-c 6:abc:b-c")...)
	}
	fold(t, setOf("ab"), l, 5, snap("ab", ""), api.OK)
	fold(t, setOf("ab"), l[:len(l)-1], 5, snap("abc", "ca"), api.OK)
	fold(t, setOf("ab"), append(l, head("1:abc:a")), 5, api.Snap{}, api.ErrSet)
	fold(t, setOf("ab"), append([]api.Header{head("1:abc:a")}, l...), 5, api.Snap{}, api.ErrSet)
}

// apart holds that two texts share no memory.
func apart(t *testing.T, one, other string) {
	t.Helper()
	start, begun := uintptr(unsafe.Pointer(unsafe.StringData(one))), uintptr(unsafe.Pointer(unsafe.StringData(other)))
	if start < begun+uintptr(len(other)) && begun < start+uintptr(len(one)) {
		t.Errorf("%s shares memory with what was handed in", short(one))
	}
}

// TestAlone is for P20.2 to P20.4: answers are new memory, what is handed in stays as
// it is, the spare room behind it too, and no call hangs on the ones ahead of it.
func TestAlone(t *testing.T) {
	for _, l := range []string{"1:abcd:b", "5:abcd:b", "1:abcd:b+x", "1:abcd:d+x", "5:abcd:d+x", "1:abcd:c-a", "1:abcd:a-a", "1:abcd:a+x", "1:abcd:d-b"} {
		h := head(l)
		// All addresses are pieces of one text, and all lists have spare room.
		s := snap("abcd", "aa ab ba xa xb yc")
		long := strings.Join(s.Set, "") + strings.Repeat("x", 20) + strings.Repeat("y", 20)
		piece := func(addr string) string { return long[max(0, strings.Index(long, addr)):][:len(addr)] }
		roomy := api.Snap{Set: make([]string, 4, 40), Votes: make([]api.Ballot, 6, 40)}
		for i, one := range s.Set {
			roomy.Set[i] = piece(one)
		}
		for i, one := range s.Votes {
			roomy.Votes[i] = api.Ballot{Voter: piece(one.Voter), Who: piece(one.Who), Add: one.Add}
		}
		h.Proposer, h.Vote, h.Validators = piece(h.Proposer), piece(h.Vote), roomy.Set
		made, _ := vset.Next(roomy, h, 5)
		folded, _ := vset.Fold(roomy.Set, []api.Header{h}, 5)
		if len(made.Set) == 0 || len(folded.Set) == 0 {
			t.Fatalf("%s answers none", l)
		}
		if !alike(roomy, s) || slices.ContainsFunc(roomy.Set[:40][4:], func(one string) bool { return one != "" }) ||
			slices.ContainsFunc(roomy.Votes[:40][6:], func(one api.Ballot) bool { return one != api.Ballot{} }) {
			t.Fatalf("Next of %s makes %s of %s", l, shown(roomy), shown(s))
		}
		want, other := copied(made), copied(folded)
		for _, got := range []api.Snap{made, folded} {
			for i, one := range got.Set {
				apart(t, one, long)
				got.Set[i] = ""
			}
			for i, one := range got.Votes {
				apart(t, one.Who, long)
				apart(t, one.Voter, long)
				got.Votes[i] = api.Ballot{}
			}
		}
		if !alike(roomy, s) || !slices.Equal(h.Validators, s.Set) {
			t.Fatalf("what is changed of an answer makes %s of %s", shown(roomy), shown(s))
		}
		vset.Next(s, api.Header{}, 5)
		next(t, roomy, h, 5, want, api.OK)
		fold(t, roomy.Set, []api.Header{h}, 5, other, api.OK)
		fold(t, roomy.Set, nil, 5, snap("abcd", ""), api.OK)
		one, _ := vset.Proposer(roomy.Set, 1, 2)
		apart(t, one, long)
		none, _ := vset.Fold(roomy.Set, nil, 5)
		for i := range none.Set {
			apart(t, none.Set[i], long)
			none.Set[i] = ""
		}
		if !alike(roomy, s) {
			t.Fatalf("what is changed of an answer makes %s of %s", shown(roomy), shown(s))
		}
	}
}

// FuzzFold is for P20.3 and P20.4: each byte of a set is a validator, each four of
// headers are one, of the validators that are due, or not.
func FuzzFold(f *testing.F) {
	f.Add("abcd", "\x01ax\x01\x02bx\x01\x03cx\x01", uint64(5))
	f.Add("ab", "\x01ac\x01\x02bc\x01\x03ca\x00\x05aa\x00\x06ba\x00\x06bd\x03", uint64(2))
	f.Add("\x00\x80\xff", "\x01\x00\x80\x00\x02\xff\x80\x00\x03\x00\x00\x04", uint64(9))
	f.Fuzz(func(t *testing.T, set, more string, epoch uint64) {
		begin := setOf(set)
		s, errno := folds(t, begin, nil, epoch)
		var l []api.Header
		for ; len(more) >= 4; more = more[4:] {
			h := with(head("1:a:a"), func(h *api.Header) {
				h.Height, h.Proposer, h.Vote, h.Add, h.Validators = uint64(more[0]), of(more[1]), of(more[2]), more[3]&1 == 1, s.Set
			})
			if more[3]&2 == 2 {
				h.Vote, h.Add = "", more[3]&8 == 8
			}
			if more[3]&4 == 4 {
				h.Validators = begin
			}
			made, e := plainly(t, s, h, epoch)
			l = append(l, h)
			if errno == api.OK {
				want := made
				fold(t, begin, l, epoch, want, e)
			}
			if e != api.OK {
				l = l[:len(l)-1]
				continue
			}
			s = made
		}
		parts(t, begin, l, epoch)
	})
}

func BenchmarkFold(b *testing.B) {
	l := heads("1:abcd:a+x 2:abcd:b+x 3:abcd:c+x 4:abcdx:x-a 5:abcdx:b-a 6:abcdx:c-a 7:abcdx:d-a 8:abcdx:x-a")
	set := setOf("abcd")
	for b.Loop() {
		vset.Fold(set, l, 5)
	}
}
