package vote_test

import (
	"fmt"
	"math/rand/v2"
	"slices"
	"strings"
	"testing"
	"unsafe"

	"ecclesia/api"
	"ecclesia/vote"
)

// TestRight is for P19.1: snaps that may be, and such that may not.
func TestRight(t *testing.T) {
	for _, s := range goods() {
		if !vote.Right(s) || !plainly(t, s, in('a', 'x'), out('a', 'a'), in('x', 'a')) {
			t.Errorf("%s may not be", shown(s))
		}
	}
	for _, s := range bads() {
		if vote.Right(s) || plainly(t, s, in('a', 'x'), out('a', 'a'), api.Ballot{}) {
			t.Errorf("%s may be", shown(s))
		}
	}
}

// TestRightHalf is for P19.1: votes of just half, and of one more.
func TestRightHalf(t *testing.T) {
	for size := 1; size <= 16; size++ {
		set := letters(size)
		for _, who := range []byte{set[0], set[size/2], set[size-1], 'x', '0'} {
			var some string
			for many := range size + 1 {
				s := snap(set, some)
				if vote.Right(s) != (many <= size/2) {
					t.Errorf("%d votes of %d: Right is %t", many, size, vote.Right(s))
				}
				// Others have no part in it.
				s.Votes = append(s.Votes, in(set[0], 'z'))
				if right := many <= size/2 && size > 1; vote.Right(s) != right {
					t.Errorf("%d votes of %d and one more: Right is not %t", many, size, right)
				}
				plainly(t, s)
				if many < size {
					some += string([]byte{who, set[many], ' '})
				}
			}
		}
	}
}

// TestRightAll is for P19.1 to P19.3: all snaps of at most three validators in any
// order, and three votes.
func TestRightAll(t *testing.T) {
	var sets []string
	for _, one := range []string{"", "a", "b", "c"} {
		for _, two := range []string{"", "a", "b", "c"} {
			for _, three := range []string{"", "a", "b", "c"} {
				sets = append(sets, one+two+three)
			}
		}
	}
	slices.Sort(sets)
	var each []api.Ballot
	for _, voter := range []byte("abc") {
		for _, who := range []byte("abc") {
			each = append(each, in(voter, who), out(voter, who))
		}
	}
	lists := [][]api.Ballot{nil}
	for i := 0; len(lists[i]) < 3; i++ {
		for _, one := range each {
			lists = append(lists, append(slices.Clone(lists[i]), one))
		}
	}
	are := 0
	for _, set := range slices.Compact(sets) {
		for i, votes := range lists {
			if plainly(t, api.Snap{Set: setOf(set), Votes: votes}, each[i%18], each[i/18%18]) {
				are++
			}
		}
	}
	// Of one validator there is no vote; of each of the three pairs, each of three has
	// none or one of two, 27; of three, each has none or one of three, 64.
	if are != 3+3*27+64 {
		t.Errorf("%d may be", are)
	}
}

// TestHas is for P19.1: addresses that are there or not, also in sets that may not
// be.
func TestHas(t *testing.T) {
	lists := append(badSets(), setOf("abc"), setOf("a"), setOf(letters(16)), setOf("\x00\xff"), []string{"", "x"}, []string{"x", ""}, setOf("zzyyxxa"))
	for _, set := range lists {
		for _, addr := range append(noAddresses(), of('a'), of('b'), of('q'), of('z'), of(0), of(0xff), "aaaaaaaaaaaaaaaaaaab", "A"+of('a')[1:]) {
			s := api.Snap{Set: set}
			want := slices.Index(set, addr) >= 0
			if vote.Has(s, addr) != want {
				t.Errorf("Has of %s, %s is not %t", shown(s), short(addr), want)
			}
			// Those who vote, or are voted on, are none.
			s.Votes = []api.Ballot{{Voter: addr, Who: addr, Add: true}, {Voter: addr, Who: addr}}
			if vote.Has(s, addr) != want {
				t.Errorf("Has of %s, %s is not %t", shown(s), short(addr), want)
			}
		}
	}
	s := snap("abc", "ca")
	for _, one := range "abc" {
		if !vote.Has(s, of(byte(one))) {
			t.Errorf("Has of %c is false", one)
		}
	}
	if vote.Has(s, of('d')) || vote.Has(api.Snap{}, "") || !vote.Has(api.Snap{Set: []string{""}}, "") {
		t.Error("Has of none")
	}
}

// TestCount is for P19.1: votes of one Who and Add, whoever cast them, also in snaps
// that may not be.
func TestCount(t *testing.T) {
	s := snap("abcd", "aa ab cb xc xd ya")
	mixed := api.Snap{Votes: []api.Ballot{in('a', 'x'), out('a', 'x'), in('b', 'x'), in('a', 'x'), out('a', 'y'), in('a', 'y'), {Voter: "v"}, {Voter: "v", Add: true}, {}, {Who: "x"}}}
	for _, c := range []struct {
		s    api.Snap
		b    api.Ballot
		want int
	}{
		{s, out('a', 'a'), 2}, {s, out('d', 'a'), 2}, {s, out('x', 'a'), 2}, {s, api.Ballot{Who: of('a')}, 2}, {s, in('a', 'a'), 0}, {s, out('b', 'c'), 1}, {s, out('b', 'b'), 0},
		{s, in('a', 'x'), 2}, {s, out('a', 'x'), 0}, {s, in('a', 'y'), 1}, {s, in('a', 'z'), 0}, {s, api.Ballot{}, 0}, {api.Snap{}, in('a', 'x'), 0}, {api.Snap{}, api.Ballot{}, 0},
		{mixed, in('a', 'x'), 3}, {mixed, out('a', 'x'), 1}, {mixed, in('z', 'y'), 1}, {mixed, out('z', 'y'), 1}, {mixed, api.Ballot{}, 2}, {mixed, api.Ballot{Add: true}, 1},
		{mixed, api.Ballot{Who: "x"}, 1}, {mixed, api.Ballot{Who: "xx"}, 0}, {mixed, api.Ballot{Who: of('x')[1:], Add: true}, 0},
	} {
		if got := vote.Count(c.s, c.b); got != c.want || plainCount(c.s, c.b) != c.want {
			t.Errorf("Count of %s in %s is %d, not %d", line(c.b), shown(c.s), got, c.want)
		}
	}
}

// TestCastTold is for P19.2: what is cast, written out: validators and votes, a vote
// (whom it is on, and the voter), and what these make.
func TestCastTold(t *testing.T) {
	for _, c := range [][5]string{
		// The chapter's example.
		{"a", "", "ba", "ab", ""}, {"b", "", "ab", "ab", ""},
		// Half is not enough.
		{"ab", "", "ca", "ab", "ca"}, {"ab", "ca", "cb", "abc", ""}, {"ab", "cb", "ca", "abc", ""}, {"bd", "cb", "cd", "bcd", ""}, {"bc", "ab", "ac", "abc", ""},
		{"abc", "", "xc", "abc", "xc"}, {"abc", "xc", "xa", "abcx", ""}, {"abcd", "xa", "xd", "abcd", "xa xd"}, {"abcd", "xa xd", "xb", "abcdx", ""},
		{"abcdef", "xa xb", "xf", "abcdef", "xa xb xf"}, {"abcdef", "xa xb xf", "xd", "abcdefx", ""},
		{"abc", "", "cc", "abc", "cc"}, {"abc", "cc", "cb", "ab", ""}, {"abc", "aa", "ab", "bc", ""}, {"abc", "bb", "bc", "ac", ""},
		// The same once more.
		{"ab", "ca", "ca", "ab", "ca"}, {"abcd", "aa ab xc xd", "xd", "abcd", "aa ab xc xd"}, {"abcd", "aa ab xc xd", "aa", "abcd", "aa ab xc xd"}, {"ab", "bb", "bb", "ab", "bb"},
		// Each in its place: by whom it is on, and then by voters.
		{"abcd", "bb bc xa yd", "aa", "abcd", "aa bb bc xa yd"}, {"abcd", "aa bb xa yd", "bd", "abcd", "aa bb bd xa yd"}, {"abcd", "aa bb xa yd", "ba", "abcd", "aa ba bb xa yd"},
		{"abcd", "aa bb xb yd", "xa", "abcd", "aa bb xa xb yd"}, {"abcd", "aa bb xb yd", "xc", "abcd", "aa bb xb xc yd"}, {"abcd", "aa bb xb yd", "zd", "abcd", "aa bb xb yd zd"},
		{"abcdefgh", "xb xd xf", "xc", "abcdefgh", "xb xc xd xf"}, {"\x01\x7f\x80", "\x81\x01", "\x7e\x80", "\x01\x7f\x80", "\x7e\x80 \x81\x01"}, {"ab\x80\xff", "x\x80", "xb", "ab\x80\xff", "xb x\x80"},
		// Votes on one that comes in go, others stay.
		{"abcd", "aa xa xb yc zd", "xd", "abcdx", "aa yc zd"}, {"acd", "aa ba ca xa", "bd", "abcd", "aa ca xa"}, {"abcd", "ba ca da xa xb", "xd", "abcdx", "ba ca da"},
		// Votes on one that goes, and of it, go.
		{"abcd", "aa da db xa", "dc", "abc", "aa xa"}, {"abcd", "aa da db xa yd", "dc", "abc", "aa xa"}, {"abcd", "ad bd db dd xd yc zd", "da", "abc", "yc"},
		{"abcde", "ae be da ea eb xd xe ye", "ec", "abcd", "da xd"}, {"abcd", "da db xd", "dd", "abc", ""}, {"ab", "bb ca", "ba", "a", ""}, {"ab", "ab cb", "aa", "b", ""},
		{"ab", "aa bb", "ab", "b", ""}, {"ab", "ab bb", "ba", "a", ""}, {"ab", "aa ca da eb", "ab", "b", ""},
		// Of those that are left more than half have voted: these votes go, nothing is done.
		{"abcd", "da db xa xb", "dc", "abc", ""}, {"abcd", "aa ab da db xc", "dc", "abc", "xc"}, {"abcd", "ba bc da db xa xb yc zd", "dc", "abc", "yc"}, {"abcd", "da db wa wc xa xb ya zb zc", "dc", "abc", "ya"},
		// One of two votes was of the one that goes: the other one is not more than half.
		{"abcd", "da db xa xd", "dc", "abc", "xa"}, {"abcd", "aa ad da db xa xd ya yb", "dc", "abc", "aa xa"}, {"abcd", "aa ab xa xc", "ad", "bcd", "xc"},
		// Two of five are two of four, and of six three of five.
		{"abcde", "ea eb xa xb", "ec", "abcd", "xa xb"}, {"abcdef", "fa fb fc xa xb xc ya yb", "fd", "abcde", "ya yb"}, {"abcdef", "fa fb fc xa xb xf ya yb", "fd", "abcde", "xa xb ya yb"},
		// One of three is one of two, and of two one of one.
		{"abc", "ca xa yb zc", "cb", "ab", "xa yb"}, {"ab", "ba xa", "bb", "a", ""},
		// Votes on those who stay, in two ways.
		{"abc", "aa ba ca", "cb", "ab", "aa ba"}, {"abc", "ac bc cb", "ca", "ab", ""}, {"abcd", "aa ac bb bd ca cb dc", "dd", "abcd", "aa ac bb bd ca cb dc dd"},
	} {
		s, want := snap(c[0], c[1]), snap(c[3], c[4])
		b := snap(c[0], c[2]).Votes[0]
		gives(t, s, b, want, api.OK)
		casts(t, s, b)
	}
}

// TestCastNeeded is for P19.2 and P19.4: more than half of sets of all sizes, in any
// order of the voters.
func TestCastNeeded(t *testing.T) {
	source := rand.New(rand.NewPCG(19, 2))
	for size := 1; size <= 16; size++ {
		set := letters(size)
		for _, who := range []byte{'0', 'z', set[0], set[size-1], set[source.IntN(size)]} {
			add := strings.IndexByte(set, who) < 0
			s := snap(set, "")
			if add && size == 16 || !add && size == 1 {
				gives(t, s, api.Ballot{Voter: of('a'), Who: of(who), Add: add}, api.Snap{}, api.ErrVote)
				continue
			}
			for i, at := range source.Perm(size) {
				s, _ = casts(t, s, api.Ballot{Voter: of(set[at]), Who: of(who), Add: add})
				if i == size/2 {
					break
				}
				if len(s.Set) != size || vote.Count(s, api.Ballot{Who: of(who), Add: add}) != i+1 {
					t.Fatalf("%d of %d: %s", i+1, size, shown(s))
				}
			}
			want := size + 1
			if !add {
				want = size - 1
			}
			if len(s.Set) != want || len(s.Votes) != 0 || vote.Has(s, of(who)) != add {
				t.Fatalf("%d of %d: %s", size/2+1, size, shown(s))
			}
		}
	}
}

// TestCastEnds is for P19.2: sixteen validators, and one.
func TestCastEnds(t *testing.T) {
	// The sixteenth comes in, and votes on a seventeenth stay open, but can't be cast.
	fifteen := letters(15)
	open := snap(fifteen, "oa ob oc od oe of og ya yb yc yd ye yf yg")
	s, _ := casts(t, snap(fifteen, "oa ob oc od oe of og xa xb xc xd xe xf xg ya yb yc yd ye yf yg"), in('h', 'x'))
	if len(s.Set) != 16 || !slices.Equal(s.Votes, open.Votes) {
		t.Fatal(shown(s))
	}
	for _, b := range []api.Ballot{in('a', 'y'), in('h', 'y'), in('x', 'y'), in('a', 'z'), in('a', 'x'), in('y', 'y')} {
		gives(t, s, b, api.Snap{}, api.ErrVote)
		casts(t, s, b)
	}
	// Votes on one out can, and behind it those on one in can again.
	left, _ := casts(t, s, out('h', 'o'))
	if len(left.Set) != 16 || len(left.Votes) != 15 {
		t.Fatal(shown(left))
	}
	left, _ = casts(t, left, out('i', 'o'))
	if len(left.Set) != 15 || len(left.Votes) != 7 {
		t.Fatal(shown(left))
	}
	again, _ := casts(t, left, in('x', 'y'))
	if len(again.Set) != 16 || len(again.Votes) != 0 {
		t.Fatal(shown(again))
	}
	// Eight of sixteen are more than half of fifteen.
	full := snap(letters(16), "oa ob oc od oe of og oh xa xb xc xd xe xf xg xh ya yb yc yd ye yf yg za zb zc zd ze zf zg zo")
	gives(t, full, out('p', 'o'), snap("abcdefghijklmnp", "ya yb yc yd ye yf yg za zb zc zd ze zf zg"), api.OK)
	// The last one stays, whoever votes.
	last := snap("a", "")
	for _, b := range []api.Ballot{out('a', 'a'), out('b', 'a'), out('b', 'b'), out('a', 'b'), in('a', 'a'), in('b', 'a'), in('b', 'b')} {
		gives(t, last, b, api.Snap{}, api.ErrVote)
	}
	two, _ := casts(t, last, in('a', 'b'))
	one, _ := casts(t, two, out('b', 'a'))
	one, _ = casts(t, one, out('a', 'a'))
	if !alike(one, snap("b", "")) {
		t.Error(shown(one))
	}
}

// TestCastErrors is for P19.2 and P19.3: each error, and which comes first.
func TestCastErrors(t *testing.T) {
	for _, s := range bads() {
		for _, b := range []api.Ballot{in('a', 'x'), in('a', 'y'), out('a', 'a'), out('a', 'b'), {}, in('x', 'x'), in('a', 'a')} {
			gives(t, s, b, api.Snap{}, api.ErrArg)
		}
		if got, e := vote.Close(s); !alike(got, api.Snap{}) || e != api.ErrArg {
			t.Errorf("Close of %s answers %s, %d", shown(s), shown(got), e)
		}
	}
	for _, s := range []api.Snap{snap("abcd", ""), snap("abcd", "aa ab da xa xb yc yd"), snap("abcdefgh", "bb xa"), snap("abcdefghijklmnop", "xa")} {
		for _, b := range badBallots() {
			gives(t, s, b, api.Snap{}, api.ErrVote)
			casts(t, s, b)
		}
	}
	// Beside such as may be cast.
	s := snap("abcd", "aa ab da xa xb yc yd")
	for _, b := range []api.Ballot{out('a', 'a'), out('c', 'a'), in('d', 'x'), in('a', 'z'), out('d', 'd'), in('a', '0')} {
		if _, e := casts(t, s, b); e != api.OK {
			t.Errorf("Cast of %s answers %d", line(b), e)
		}
	}
}

// TestClose is for P19.3: the set alone, which has votes or none.
func TestClose(t *testing.T) {
	for _, s := range goods() {
		got, e := vote.Close(s)
		if !slices.Equal(got.Set, s.Set) || len(got.Votes) != 0 || e != api.OK || !vote.Right(got) {
			t.Errorf("Close of %s answers %s, %d", shown(s), shown(got), e)
		}
		again, e := vote.Close(got)
		if !alike(again, got) || e != api.OK {
			t.Errorf("Close of %s answers %s, %d", shown(got), shown(again), e)
		}
	}
}

// TestReach is for P19.1 to P19.4: all that four addresses can make of one another
// by votes, and each vote on each of these.
func TestReach(t *testing.T) {
	var each []api.Ballot
	for _, voter := range []byte("abcd") {
		for _, who := range []byte("abcd") {
			each = append(each, in(voter, who), out(voter, who))
		}
	}
	name := func(s api.Snap) string {
		var made strings.Builder
		for _, one := range s.Set {
			made.WriteByte(one[0])
		}
		for _, one := range s.Votes {
			made.WriteString(" " + one.Who[:1] + one.Voter[:1])
		}
		return made.String()
	}
	line := []api.Snap{snap("a", "")}
	seen := map[string]int{name(line[0]): 1}
	sizes := [5]int{0, 1}
	for i := 0; i < len(line); i++ {
		s := line[i]
		if !vote.Right(s) {
			t.Fatalf("%s may not be", shown(s))
		}
		for _, b := range each {
			next, e := casts(t, s, b)
			if e != api.OK || seen[name(next)] > 0 {
				continue
			}
			seen[name(next)] = 1
			sizes[len(next.Set)]++
			line = append(line, next)
		}
	}
	// All that may be: of sets of one, two, three and four of them, by none, at most
	// one, one, and two of the validators' votes on each address.
	if sizes != [5]int{0, 4, 6 * 81, 4 * 256, 14641} {
		t.Errorf("%v", sizes)
	}
}

// TestWrong is for P19.1 to P19.3: snaps of long plays with one thing of them
// changed.
func TestWrong(t *testing.T) {
	source := rand.New(rand.NewPCG(19, 4))
	var s api.Snap
	are, no := 0, 0
	for i := range 6000 {
		if i%60 == 0 {
			s = snap(letters(source.IntN(16)+1), "")
		}
		s = played(t, source, s)
		made := changed(source, copied(s))
		if plainly(t, made, some(source, made)) {
			are++
		} else {
			no++
		}
	}
	if are < 200 || no < 2000 {
		t.Errorf("%d may be, %d not", are, no)
	}
}

// changed is a snap with one thing changed.
func changed(source *rand.Rand, s api.Snap) api.Snap {
	at := func(many int) int { return source.IntN(max(1, many)) }
	one, other, i, j := at(len(s.Set)), at(len(s.Set)), at(len(s.Votes)), at(len(s.Votes))
	kind := source.IntN(11)
	if kind > 5 && len(s.Votes) == 0 {
		kind -= 6
	}
	switch kind {
	case 0:
		s.Set[one], s.Set[other] = s.Set[other], s.Set[one]
	case 1:
		s.Set = slices.Delete(s.Set, one, one+1)
	case 2:
		s.Set = slices.Insert(s.Set, one, s.Set[other])
	case 3:
		s.Set = slices.Insert(s.Set, one, of(byte(source.IntN(256))))
	case 4:
		s.Set[one] = of(byte(source.IntN(256)))
	case 5:
		s.Votes = slices.Insert(s.Votes, i, some(source, s))
	case 6:
		s.Votes[i], s.Votes[j] = s.Votes[j], s.Votes[i]
	case 7:
		s.Votes = slices.Delete(s.Votes, i, i+1)
	case 8:
		s.Votes = slices.Insert(s.Votes, i, s.Votes[j])
	case 9:
		s.Votes[i].Add = !s.Votes[i].Add
	case 10:
		s.Votes[i].Voter = some(source, s).Voter
	}
	return s
}

// some is a vote that fits more often than not.
func some(source *rand.Rand, s api.Snap) api.Ballot {
	b := api.Ballot{Voter: of(letters(18)[source.IntN(18)]), Who: of(letters(18)[source.IntN(18)])}
	if len(s.Set) > 0 && source.IntN(8) > 0 {
		b.Voter = s.Set[source.IntN(len(s.Set))]
	}
	if len(s.Votes) > 0 && source.IntN(3) > 0 {
		b.Who = s.Votes[source.IntN(len(s.Votes))].Who
	}
	b.Add = slices.Contains(s.Set, b.Who) == (source.IntN(12) == 0)
	return b
}

// played is a snap in which one more vote was cast, if it may be.
func played(t *testing.T, source *rand.Rand, s api.Snap) api.Snap {
	t.Helper()
	if next, errno := casts(t, s, some(source, s)); errno == api.OK {
		return next
	}
	return s
}

// TestPlay is for P19.1 to P19.4: long plays of votes, in which sets grow to sixteen
// and fall to one.
func TestPlay(t *testing.T) {
	source := rand.New(rand.NewPCG(19, 5))
	var sizes [17]int
	came, went, gone := 0, 0, 0
	for range 12 {
		s := snap("a", "")
		for i := range 1500 {
			b := some(source, s)
			// By turns they let in and out.
			if b.Add != (i/250%2 == 0) && source.IntN(4) > 0 {
				continue
			}
			next, errno := casts(t, s, b)
			if errno != api.OK {
				continue
			}
			switch len(next.Set) - len(s.Set) {
			case 1:
				came++
			case -1:
				went++
				kept := slices.DeleteFunc(slices.Clone(s.Votes), func(one api.Ballot) bool { return one.Who == b.Who || one.Voter == b.Who })
				gone += len(kept) - len(next.Votes)
			}
			sizes[len(next.Set)]++
			s = next
			if i%10 == 0 {
				plainly(t, s, b)
			}
		}
	}
	for size, many := range sizes {
		if size > 0 && many == 0 {
			t.Errorf("no set of %d: %v", size, sizes)
		}
	}
	if came < 100 || went < 100 || gone < 50 {
		t.Errorf("%d came, %d went, %d votes with them", came, went, gone)
	}
}

// TestLong is for P19.1 to P19.3: very many votes or validators end soon.
func TestLong(t *testing.T) {
	s := snap("abcd", "")
	for i := range 1 << 18 {
		who := fmt.Sprintf("%020d", i)
		s.Votes = append(s.Votes, api.Ballot{Voter: of('a'), Who: who, Add: true}, api.Ballot{Voter: of('b'), Who: who, Add: true})
	}
	for _, voter := range []byte("ab") {
		s.Votes = append(s.Votes, out(voter, 'd'))
	}
	s.Votes = append(s.Votes, in('c', 'y'))
	if !vote.Right(s) {
		t.Fatal("many votes may not be")
	}
	more, e := vote.Cast(s, in('d', 'y'))
	if len(more.Votes) != len(s.Votes)+1 || e != api.OK {
		t.Fatalf("%d votes, %d", len(more.Votes), e)
	}
	got, e := vote.Cast(s, out('c', 'd'))
	if !alike(got, snap("abc", "yc")) || e != api.OK {
		t.Fatalf("Cast answers %s, %d", shown(got), e)
	}
	s.Votes = append(s.Votes, in('b', 'y'), in('d', 'y'))
	plainly(t, s, in('a', 'x'))
	plainly(t, api.Snap{Set: make([]string, 1<<20), Votes: s.Votes}, in('a', 'x'))
	plainly(t, api.Snap{Set: []string{strings.Repeat("a", 1<<26)}}, in('a', 'x'))
	gives(t, snap("abcd", ""), api.Ballot{Voter: of('a'), Who: strings.Repeat("x", 1<<26), Add: true}, api.Snap{}, api.ErrVote)
}

// apart holds that two texts share no memory.
func apart(t *testing.T, one, other string) {
	t.Helper()
	start, begun := uintptr(unsafe.Pointer(unsafe.StringData(one))), uintptr(unsafe.Pointer(unsafe.StringData(other)))
	if start < begun+uintptr(len(other)) && begun < start+uintptr(len(one)) {
		t.Errorf("%s shares memory with what was handed in", short(one))
	}
}

// pieces is a snap whose texts are pieces of one, whose lists have spare room, and
// that text.
func pieces(set, votes string) (api.Snap, string) {
	s := snap(set, votes)
	long := strings.Join(s.Set, "")
	for _, one := range s.Votes {
		long += one.Who + one.Voter
	}
	made := api.Snap{Set: make([]string, len(s.Set), 40), Votes: make([]api.Ballot, len(s.Votes), 40)}
	for i := range s.Set {
		made.Set[i] = long[20*i:][:20]
	}
	for i, one := range s.Votes {
		at := 20 * (len(s.Set) + 2*i)
		made.Votes[i] = api.Ballot{Voter: long[at+20:][:20], Who: long[at:][:20], Add: one.Add}
	}
	return made, long
}

// TestAlone is for P19.2 and P19.3: answers are new memory, what is handed in stays
// as it is, the spare room behind it too, and no call hangs on the ones ahead of it.
func TestAlone(t *testing.T) {
	for _, c := range [][3]string{{"abcd", "aa xa xb yc", "xd"}, {"abcd", "aa xa xb yc", "xa"}, {"abcd", "aa xa xb yc", "wd"}, {"abcd", "aa xa xb yc", "ba"}, {"abcd", "aa ab ca xa xb yc", "ad"},
		{"abc", "ba ca xa", "cc"}, {"ab", "aa", "ab"}, {"a", "", "xa"}, {"bc", "ab", "ac"}, {"bcd", "", "ac"}} {
		s, long := pieces(c[0], c[1])
		more, other := pieces(c[0], c[2])
		b, kept := more.Votes[0], copied(s)
		before, _ := vote.Cast(s, b)
		closed, _ := vote.Close(s)
		if !alike(s, kept) || slices.ContainsFunc(s.Set[:40][len(s.Set):], func(one string) bool { return one != "" }) ||
			slices.ContainsFunc(s.Votes[:40][len(s.Votes):], func(one api.Ballot) bool { return one != api.Ballot{} }) {
			t.Fatalf("Cast of %s makes %s of %s", line(b), shown(s), shown(kept))
		}
		want := copied(before)
		for _, got := range []api.Snap{before, closed} {
			for i, one := range got.Set {
				apart(t, one, long)
				apart(t, one, other)
				got.Set[i] = ""
			}
			for i, one := range got.Votes {
				apart(t, one.Who, long)
				apart(t, one.Voter, long)
				apart(t, one.Who, other)
				apart(t, one.Voter, other)
				got.Votes[i] = api.Ballot{}
			}
		}
		if !alike(s, kept) {
			t.Fatalf("what is changed of an answer makes %s of %s", shown(s), shown(kept))
		}
		vote.Cast(bads()[0], b)
		gives(t, s, b, want, api.OK)
	}
}

// FuzzCast is for P19.1 to P19.4: each byte is a validator, each three are a vote, in
// order or not; the last votes are cast.
func FuzzCast(f *testing.F) {
	f.Add("abcd", "xa\x01xb\x01yc\x01", "xd\x01dd\x00", true)
	f.Add("abc", "aa\x00ca\x00xa\x01", "cb\x00ba\x00bb\x00", false)
	f.Add("\x01\x80\xff", "\x02\x01\x01", "\x02\xff\x01\xff\xff\x00", true)
	f.Fuzz(func(t *testing.T, set, votes, more string, order bool) {
		s := api.Snap{Set: setOf(set)}
		ballot := func(x string) api.Ballot {
			return api.Ballot{Who: of(x[0]), Voter: of(x[1]), Add: x[2]&1 == 1}
		}
		for ; len(votes) >= 3; votes = votes[3:] {
			s.Votes = append(s.Votes, ballot(votes))
		}
		if order {
			slices.Sort(s.Set)
			s.Set = slices.Compact(s.Set)
			slices.SortFunc(s.Votes, func(a, b api.Ballot) int { return strings.Compare(a.Who+a.Voter, b.Who+b.Voter) })
			s.Votes = slices.Compact(s.Votes)
		}
		plainly(t, s)
		for ; len(more) >= 3; more = more[3:] {
			next, errno := casts(t, s, ballot(more))
			if errno == api.OK {
				s = next
			}
			plainly(t, s, ballot(more))
		}
	})
}

func BenchmarkCast(b *testing.B) {
	s := snap(letters(16), "oa ob oc od oe of og oh xa xb xc xd xe xf xg xh ya yb yc yd ye yf yg za zb zc zd ze zf zg zo")
	for b.Loop() {
		vote.Cast(s, out('p', 'o'))
	}
}
