package vote_test

import (
	"fmt"
	"slices"
	"strings"
	"testing"

	"ecclesia/api"
	"ecclesia/vote"
)

// of is the address of twenty times one byte.
func of(one byte) string { return strings.Repeat(string([]byte{one}), 20) }

// setOf are validators, in the order of the bytes.
func setOf(bytes string) []string {
	var made []string
	for i := range len(bytes) {
		made = append(made, of(bytes[i]))
	}
	return made
}

// snap are validators and votes, in the order in which they stand: each vote is two
// bytes, whom it is on, and the voter's. Who is none of the set is wanted in.
func snap(set, votes string) api.Snap {
	made := api.Snap{Set: setOf(set)}
	for _, one := range strings.Fields(votes) {
		made.Votes = append(made.Votes, api.Ballot{Voter: of(one[1]), Who: of(one[0]), Add: strings.IndexByte(set, one[0]) < 0})
	}
	return made
}

// in and out are votes of a byte's address on another one.
func in(voter, who byte) api.Ballot  { return api.Ballot{Voter: of(voter), Who: of(who), Add: true} }
func out(voter, who byte) api.Ballot { return api.Ballot{Voter: of(voter), Who: of(who)} }

// alike says if two snaps are the same.
func alike(a, b api.Snap) bool { return slices.Equal(a.Set, b.Set) && slices.Equal(a.Votes, b.Votes) }

// copied is a snap with lists of its own.
func copied(s api.Snap) api.Snap {
	return api.Snap{Set: slices.Clone(s.Set), Votes: slices.Clone(s.Votes)}
}

// short is an address as far as a message needs it.
func short(addr string) string {
	if len(addr) == 20 && addr == of(addr[0]) {
		return fmt.Sprintf("%q", addr[:1])
	}
	return fmt.Sprintf("%.24x(%d)", addr, len(addr))
}

// line is a vote as far as a message needs it.
func line(b api.Ballot) string {
	return fmt.Sprintf("%s by %s: %t", short(b.Who), short(b.Voter), b.Add)
}

// shown is a snap as far as a message needs it.
func shown(s api.Snap) string {
	var set, votes []string
	for _, one := range s.Set[:min(20, len(s.Set))] {
		set = append(set, short(one))
	}
	for _, one := range s.Votes[:min(20, len(s.Votes))] {
		votes = append(votes, line(one))
	}
	return fmt.Sprintf("%d [%s], %d [%s]", len(s.Set), strings.Join(set, " "), len(s.Votes), strings.Join(votes, "; "))
}

// gives holds Cast against what is wanted, and that nothing changes of what is
// handed in.
func gives(t *testing.T, s api.Snap, b api.Ballot, want api.Snap, errno api.Errno) {
	t.Helper()
	kept := copied(s)
	got, e := vote.Cast(s, b)
	if !alike(got, want) || e != errno {
		t.Fatalf("Cast of %s to %s answers %s, %d, not %s, %d", line(b), shown(kept), shown(got), e, shown(want), errno)
	}
	if !alike(s, kept) {
		t.Fatalf("Cast of %s makes %s of %s", line(b), shown(s), shown(kept))
	}
}

// casts holds Cast against what the chapter says, and answers that.
func casts(t *testing.T, s api.Snap, b api.Ballot) (api.Snap, api.Errno) {
	t.Helper()
	want, errno := plainCast(s, b)
	gives(t, s, b, want, errno)
	if errno == api.OK {
		follows(t, s, b, want)
	}
	return want, errno
}

// follows holds what follows from what was cast: it may be, and the validators are
// others by one at most, and just if more than half of them had voted for that.
func follows(t *testing.T, s api.Snap, b api.Ballot, made api.Snap) {
	t.Helper()
	if !vote.Right(made) || len(made.Set) == 0 {
		t.Fatalf("Cast of %s to %s answers %s, which may not be", line(b), shown(s), shown(made))
	}
	voters := map[string]int{b.Voter: 1}
	for _, one := range s.Votes {
		if one.Who == b.Who {
			voters[one.Voter] = 1
		}
	}
	want := slices.Clone(s.Set)
	if len(voters) > len(s.Set)-len(voters) {
		want = slices.DeleteFunc(want, func(one string) bool { return one == b.Who })
		if b.Add {
			want = append(want, b.Who)
		}
	}
	slices.Sort(want)
	if !slices.Equal(made.Set, want) {
		t.Fatalf("Cast of %s to %s answers %s", line(b), shown(s), shown(made))
	}
}

// plainly holds Right, Close and what a few votes make of a snap against what the
// chapter says, and answers if it may be.
func plainly(t *testing.T, s api.Snap, few ...api.Ballot) bool {
	t.Helper()
	kept, right := copied(s), plainRight(s)
	if vote.Right(s) != right {
		t.Fatalf("Right of %s is not %t", shown(s), right)
	}
	got, e := vote.Close(s)
	if want, errno := plainClose(s); !alike(got, want) || e != errno {
		t.Fatalf("Close of %s answers %s, %d, not %s, %d", shown(s), shown(got), e, shown(want), errno)
	}
	if !alike(s, kept) {
		t.Fatalf("%s has become %s", shown(kept), shown(s))
	}
	for _, one := range few {
		casts(t, s, one)
		if many, want := vote.Count(s, one), plainCount(s, one); many != want {
			t.Fatalf("Count of %s in %s is %d, not %d", line(one), shown(s), many, want)
		}
	}
	return right
}

// letters are so many bytes that rise.
func letters(many int) string { return "abcdefghijklmnopqrstuvwxyz"[:many] }

// goods are snaps that may be: sets of all sizes, with as many votes as may be open.
func goods() []api.Snap {
	list := []api.Snap{snap("a", ""), {Set: []string{of(0)}, Votes: []api.Ballot{}}, snap("\x00\x7f\x80\xff", "\x00\x7f \x00\xff \x7f\x00 \x81\x80 \x81\xff \xff\xff"),
		{Set: []string{"aaaaaaaaaaaaaaaaaaaa", "aaaaaaaaaaaaaaaaaaab"}, Votes: []api.Ballot{{Voter: "aaaaaaaaaaaaaaaaaaab", Who: "aaaaaaaaaaaaaaaaaaaA", Add: true}, {Voter: "aaaaaaaaaaaaaaaaaaab", Who: "aaaaaaaaaaaaaaaaaaaa"}}},
		snap("ab", "aa bb cb"), snap("ab", "ab ba ca"), snap("bcd", "ad bb cd dd ed"), snap("abcd", "aa ab ba bd cb cd dc dd xb xc yc yd za")}
	for size := 1; size <= 16; size++ {
		set := letters(size)
		list = append(list, snap(set, ""))
		var some string
		for _, who := range set + "xyz" {
			for i := range size / 2 {
				some += fmt.Sprintf("%c%c ", who, set[size-size/2+i])
			}
		}
		list = append(list, snap(set, some))
	}
	return list
}

// noAddresses are texts that have not 20 bytes, one of them 20 runes.
func noAddresses() []string {
	list := []string{"", strings.Repeat("\xC3\xA4", 20)}
	for _, size := range []int{1, 19, 21, 32, 40, 256 + 20, 65536 + 20} {
		list = append(list, strings.Repeat("a", size), strings.Repeat("x", size))
	}
	return list
}

// badSets are sets of none, too many, not rising, or not of addresses.
func badSets() [][]string {
	list := [][]string{nil, {}, setOf("ba"), setOf("aa"), setOf("abb"), setOf("acb"), setOf("bac"), setOf("abcdefghijklmnpo"), setOf("\x80\x7f"),
		setOf(letters(17)), setOf(letters(18)), setOf(letters(26)), {"aaaaaaaaaaaaaaaaaaab", "aaaaaaaaaaaaaaaaaaaa"}}
	for _, addr := range noAddresses() {
		list = append(list, []string{addr}, []string{of(0), addr}, []string{addr, of(0xff)}, []string{of(0), addr, of(0xff)})
	}
	return list
}

// badVotes are snaps of which the set may be, but the votes may not.
func badVotes() []api.Snap {
	list := []api.Snap{
		// More than half, of sets of all kinds of sizes.
		snap("a", "ba"), snap("a", "aa"), snap("ab", "ca cb"), snap("ab", "aa ab"), snap("abc", "xa xb"), snap("abc", "cb cc"), snap("abcd", "xa xb xc"), snap("abcde", "ea ec ee"),
		snap("abcdef", "xa xb xc xd"), snap(letters(15), "xa xb xc xd xe xf xg xh"), snap(letters(16), "xa xb xc xd xe xf xg xh xi"), snap("abc", "aa ba ca xa ya za zb"),
		snap("abcd", "wa wb xa xb xc ya"), snap("abcd", "aa ab ba bb bc"), snap("abcd", "aa ab ac ba"),
		// Not rising.
		snap("ab", "da ca"), snap("ab", "ca aa"), snap("abcd", "xb xa"), snap("abcd", "xa ya xb"), snap("abcd", "xd ya yc yb"), snap("abcd", "aa ad ac"), snap("abcd", "\x80a \x7fa"),
		// Twice.
		snap("abcd", "xa xa"), snap("abcd", "wa xa xa ya"), snap("abcd", "bb bb"), snap(letters(16), "xa xb xc xc"), snap("abcd", "xa yb xa"),
		// Of no validator.
		snap("ab", "cc"), snap("ab", "cd"), snap("ab", "ac"), snap("abcd", "xa xe"), snap("abcd", "xa xb ye"), snap("abcd", "`` xa"),
	}
	add := func(b ...api.Ballot) {
		list = append(list, api.Snap{Set: setOf("abcd"), Votes: b})
	}
	// Of one who is what is wanted, and both ways at once.
	add(in('a', 'b'))
	add(in('a', 'a'))
	add(out('a', 'x'))
	add(in('a', 'x'), out('b', 'x'))
	add(out('a', 'x'), in('b', 'x'))
	add(out('a', 'b'), in('b', 'b'))
	add(in('a', 'x'), out('a', 'x'))
	add(in('a', 'x'), in('a', 'y'), out('a', 'z'))
	add(api.Ballot{})
	add(api.Ballot{Add: true})
	for _, addr := range noAddresses() {
		add(api.Ballot{Voter: of('a'), Who: addr})
		add(api.Ballot{Voter: of('a'), Who: addr, Add: true})
		add(api.Ballot{Voter: addr, Who: of('x'), Add: true})
		add(api.Ballot{Voter: addr, Who: of('a')})
	}
	return list
}

// bads are snaps that may not be.
func bads() []api.Snap {
	list := badVotes()
	for _, set := range badSets() {
		list = append(list, api.Snap{Set: set})
		for _, voter := range set[:min(2, len(set))] {
			list = append(list, api.Snap{Set: set, Votes: []api.Ballot{{Voter: voter, Who: of('~'), Add: true}}}, api.Snap{Set: set, Votes: []api.Ballot{{Voter: voter, Who: voter}}})
		}
	}
	return list
}

// badBallots are votes that may not be cast, whoever of a to d is a validator, and
// whoever of x to z is none.
func badBallots() []api.Ballot {
	list := []api.Ballot{{}, {Add: true}, in('a', 'a'), in('a', 'b'), in('d', 'a'), out('a', 'x'), out('b', 'z'), in('x', 'x'), out('x', 'x'), in('x', 'y'), out('x', 'y'), out('x', 'a'), in('x', 'a')}
	for _, addr := range noAddresses() {
		list = append(list, api.Ballot{Voter: of('a'), Who: addr}, api.Ballot{Voter: of('a'), Who: addr, Add: true}, api.Ballot{Voter: addr, Who: of('x'), Add: true}, api.Ballot{Voter: addr, Who: of('a')},
			api.Ballot{Voter: addr, Who: addr}, api.Ballot{Voter: addr, Who: addr, Add: true})
	}
	return list
}
