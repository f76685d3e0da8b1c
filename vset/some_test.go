package vset_test

import (
	"fmt"
	"math"
	"slices"
	"strconv"
	"strings"
	"testing"

	"ecclesia/api"
	"ecclesia/vote"
	"ecclesia/vset"
)

const most = math.MaxUint64

// of is the address of twenty times one byte.
func of(one byte) string { return strings.Repeat(string([]byte{one}), 20) }

// hash is 32 times one byte.
func hash(one byte) string { return strings.Repeat(string([]byte{one}), 32) }

// setOf are validators, in the order of the bytes.
func setOf(bytes string) []string {
	var made []string
	for i := range len(bytes) {
		made = append(made, of(bytes[i]))
	}
	return made
}

// letters are so many bytes that rise.
func letters(many int) string { return "abcdefghijklmnopqrstuvwxyz"[:many] }

// snap are validators and votes, in the order in which they stand: each vote is two
// bytes, whom it is on, and the voter's. Who is none of the set is wanted in.
func snap(set, votes string) api.Snap {
	made := api.Snap{Set: setOf(set)}
	for _, one := range strings.Fields(votes) {
		made.Votes = append(made.Votes, api.Ballot{Voter: of(one[1]), Who: of(one[0]), Add: strings.IndexByte(set, one[0]) < 0})
	}
	return made
}

// head is a header from a line, as 3:abc:a+x: of height 3, the validators a, b and
// c, by a, who wants x in; - wants one out, and behind a alone is no vote.
func head(line string) api.Header {
	parts := strings.Split(line, ":")
	height, err := strconv.ParseUint(parts[0], 10, 64)
	if len(parts) != 3 || err != nil {
		panic(line)
	}
	h := api.Header{Parent: hash('p'), Height: height, Root: hash('r'), Txs: hash('t'), Proposer: of(parts[2][0]), Validators: setOf(parts[1])}
	if len(parts[2]) == 3 {
		h.Vote, h.Add = of(parts[2][2]), parts[2][1] == '+'
	}
	return h
}

// heads are headers, from lines with spaces between them.
func heads(lines string) []api.Header {
	var made []api.Header
	for _, one := range strings.Fields(lines) {
		made = append(made, head(one))
	}
	return made
}

// with is a header, changed.
func with(h api.Header, change func(h *api.Header)) api.Header {
	change(&h)
	return h
}

// alike says if two snaps are the same.
func alike(a, b api.Snap) bool { return slices.Equal(a.Set, b.Set) && slices.Equal(a.Votes, b.Votes) }

// copied is a snap with lists of its own.
func copied(s api.Snap) api.Snap {
	return api.Snap{Set: slices.Clone(s.Set), Votes: slices.Clone(s.Votes)}
}

// short is an address as far as a message needs it.
func short(addr string) string {
	if len(addr) == 20 && addr == of(addr[0]) {
		return fmt.Sprintf("%q", addr[:1])
	}
	return fmt.Sprintf("%.24x(%d)", addr, len(addr))
}

// shorts are some addresses so.
func shorts(l []string) string {
	var made []string
	for _, one := range l[:min(20, len(l))] {
		made = append(made, short(one))
	}
	return fmt.Sprintf("%d [%s]", len(l), strings.Join(made, " "))
}

// shown is a snap as far as a message needs it.
func shown(s api.Snap) string {
	var votes []string
	for _, one := range s.Votes[:min(20, len(s.Votes))] {
		votes = append(votes, fmt.Sprintf("%s by %s: %t", short(one.Who), short(one.Voter), one.Add))
	}
	return fmt.Sprintf("%s, %d [%s]", shorts(s.Set), len(s.Votes), strings.Join(votes, "; "))
}

// line is a header as far as a message needs it.
func line(h api.Header) string {
	return fmt.Sprintf("%d of %s by %s: %s, %t", h.Height, shorts(h.Validators), short(h.Proposer), short(h.Vote), h.Add)
}

// next holds Next against what is wanted, and that nothing changes of what is
// handed in.
func next(t *testing.T, s api.Snap, h api.Header, epoch uint64, want api.Snap, errno api.Errno) {
	t.Helper()
	kept, set := copied(s), slices.Clone(h.Validators)
	got, e := vset.Next(s, h, epoch)
	if !alike(got, want) || e != errno {
		t.Fatalf("Next of %s and %s, %d answers %s, %d, not %s, %d", shown(kept), line(h), epoch, shown(got), e, shown(want), errno)
	}
	if !alike(s, kept) || !slices.Equal(h.Validators, set) {
		t.Fatalf("Next of %s and %s makes %s of it", shown(kept), line(h), shown(s))
	}
}

// plainly holds Next against what the chapter says, and answers that.
func plainly(t *testing.T, s api.Snap, h api.Header, epoch uint64) (api.Snap, api.Errno) {
	t.Helper()
	want, errno := plainNext(s, h, epoch)
	next(t, s, h, epoch, want, errno)
	if errno == api.OK && !vote.Right(want) {
		t.Fatalf("Next of %s and %s, %d answers %s, which may not be", shown(s), line(h), epoch, shown(want))
	}
	return want, errno
}

// fold holds Fold against what is wanted, and that nothing changes of what is
// handed in.
func fold(t *testing.T, set []string, l []api.Header, epoch uint64, want api.Snap, errno api.Errno) {
	t.Helper()
	kept := slices.Clone(set)
	got, e := vset.Fold(set, l, epoch)
	if !alike(got, want) || e != errno {
		t.Fatalf("Fold of %s and %d headers, %d answers %s, %d, not %s, %d", shorts(set), len(l), epoch, shown(got), e, shown(want), errno)
	}
	if !slices.Equal(set, kept) {
		t.Fatalf("Fold of %s makes %s of it", shorts(kept), shorts(set))
	}
}

// folds holds Fold against what the chapter says, and answers that.
func folds(t *testing.T, set []string, l []api.Header, epoch uint64) (api.Snap, api.Errno) {
	t.Helper()
	want, errno := plainFold(set, l, epoch)
	fold(t, set, l, epoch, want, errno)
	return want, errno
}

// goodSnaps are validators and votes that may be.
func goodSnaps() []api.Snap {
	return []api.Snap{snap("a", ""), {Set: setOf("\x00"), Votes: []api.Ballot{}}, snap("ab", ""), snap("ab", "aa bb cb"), snap("abcd", "aa ab da xa xb yc yd"),
		snap("\x00\x7f\x80\xff", "\x00\x7f \x00\xff \x7f\x00 \x81\x80 \x81\xff \xff\xff"), snap(letters(15), "oa ob oc od oe of og xa xb xc xd xe xf xg"),
		snap(letters(16), ""), snap(letters(16), "oa ob oc od oe of og oh xa xb xc xd xe xf xg xh")}
}

// badSnaps are validators and votes that may not be.
func badSnaps() []api.Snap {
	list := []api.Snap{snap("ab", "ca cb"), snap("a", "ba"), snap("abcd", "xa xb xc"), snap("abcd", "xb xa"), snap("abcd", "xa xa"), snap("abcd", "xe"), snap("abcd", "ya xa"),
		{Set: setOf("ab"), Votes: []api.Ballot{{Voter: of('a'), Who: of('b'), Add: true}}}, {Set: setOf("ab"), Votes: []api.Ballot{{Voter: of('a'), Who: of('c')}}},
		{Set: setOf("ab"), Votes: []api.Ballot{{}}}, {Set: setOf("ab"), Votes: []api.Ballot{{Voter: of('a'), Who: "c", Add: true}}}}
	for _, set := range badSets() {
		list = append(list, api.Snap{Set: set})
	}
	return list
}

// badSets are validators that may not be.
func badSets() [][]string {
	return [][]string{nil, {}, setOf("ba"), setOf("aa"), setOf("acb"), setOf("abb"), setOf("\x80\x7f"), setOf(letters(17)), setOf(letters(26)),
		{""}, {of('a')[1:]}, {of('a') + "a"}, {hash('a')}, {of('a'), of('b')[1:]}, {of('a')[1:], of('b')}, {of('a'), "b" + of('b'), of('c')}, {"", of('a')}}
}

// seal is a signature that may be.
func seal() api.Sig { return api.Sig{R: api.U{3}, S: api.U{5}, V: 1} }

// badHeads are headers made of one that may be, none of which may be.
func badHeads(h api.Header) []api.Header {
	list := []api.Header{{}, {Height: h.Height, Validators: h.Validators, Proposer: h.Proposer}}
	add := func(change func(h *api.Header)) { list = append(list, with(h, change)) }
	for _, wrong := range []string{"", hash('x')[1:], hash('x') + "x", of('x')} {
		add(func(h *api.Header) { h.Parent = wrong })
		add(func(h *api.Header) { h.Root = wrong })
		add(func(h *api.Header) { h.Txs = wrong })
	}
	for _, wrong := range []string{"", of('a')[1:], of('a') + "a", hash('a')} {
		add(func(h *api.Header) { h.Proposer = wrong })
		add(func(h *api.Header) { h.Vote, h.Add = wrong, true })
		if wrong != "" {
			add(func(h *api.Header) { h.Vote, h.Add = wrong, false })
		}
	}
	add(func(h *api.Header) { h.Vanity = "123456789" })
	for _, wrong := range badSets() {
		add(func(h *api.Header) { h.Validators = wrong })
	}
	for _, wrong := range []api.Sig{{}, {R: api.U{1}}, {S: api.U{1}}, {R: api.U{1}, S: api.U{1}, V: 2}, {R: api.U{1}, S: api.U{0, 0, 0, most}}, {R: api.U{1}, S: api.U{1}, V: -1}} {
		add(func(h *api.Header) { h.Seals = []api.Sig{wrong} })
		add(func(h *api.Header) { h.Seals = []api.Sig{seal(), wrong} })
	}
	add(func(h *api.Header) { h.Seals = slices.Repeat([]api.Sig{seal()}, 17) })
	return list
}

// goodHeads are headers made of one that may be, in which all is changed that has no
// part in who is a validator.
func goodHeads(h api.Header) []api.Header {
	list := []api.Header{h}
	add := func(change func(h *api.Header)) { list = append(list, with(h, change)) }
	add(func(h *api.Header) { h.Parent, h.Root, h.Txs = hash(0), hash(0xff), hash('a') })
	add(func(h *api.Header) { h.Vanity = "12345678" })
	for _, round := range []uint64{1, h.Height, 1 << 32, most} {
		add(func(h *api.Header) { h.Round = round })
	}
	for _, many := range []int{1, 2, 16} {
		add(func(h *api.Header) { h.Seals = slices.Repeat([]api.Sig{seal()}, many) })
	}
	return list
}
