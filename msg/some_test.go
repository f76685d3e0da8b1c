package msg_test

import (
	"fmt"
	"math"
	"math/big"
	"math/rand/v2"
	"slices"
	"strings"
	"testing"

	"ecclesia/api"
	"ecclesia/block"
	"ecclesia/msg"
	"ecclesia/sign"
)

const most = math.MaxUint64

// text is bytes of all kinds, the same ones at each run.
func text(size int) string {
	made := make([]byte, size)
	rand.NewChaCha8([32]byte{21}).Read(made)
	return string(made)
}

// of is the address of twenty times one byte.
func of(one byte) string { return strings.Repeat(string([]byte{one}), 20) }

// hash is 32 times one byte.
func hash(one byte) string { return strings.Repeat(string([]byte{one}), 32) }

// numbers are those of all lengths in a record, and about them.
func numbers() []uint64 {
	list := []uint64{0, 1, 2, 3, 4, 5, 126, 127, 128, 129, 255, 256, 1000, most, most - 1, 1 << 63, 1<<63 - 1}
	for bits := 16; bits < 64; bits += 8 {
		list = append(list, 1<<bits-1, 1<<bits, 1<<bits+1)
	}
	return list
}

// less is a number of the library's, less so many.
func less(a *big.Int, by int64) api.U { return narrow(new(big.Int).Sub(a, big.NewInt(by))) }

// whole is the greatest number.
var whole = api.U{most, most, most, most}

// secrets are numbers that are secrets, noSecrets such that are none.
func secrets() []api.U {
	return []api.U{{1}, {2}, {7}, {0, 1}, {0, 0, 0, 1 << 62}, narrow(half), less(half, -1), less(order, 1)}
}

func noSecrets() []api.U {
	return []api.U{{}, narrow(order), less(order, -1), less(order, -7), whole}
}

// sig is some signature that may be, of no one.
func sig(n uint64) api.Sig {
	return api.Sig{R: api.U{n, 3, 2, 1}, S: api.U{8, 7, 6, n}, V: int(n & 1)}
}

// goodSigs are signatures that may be, with the edges.
func goodSigs() []api.Sig {
	list := []api.Sig{sig(0), sig(9)}
	for _, r := range []api.U{{1}, {0, 0, 0, 1}, narrow(half), less(order, 1)} {
		for _, s := range []api.U{{1}, {0, 1}, less(half, 1), narrow(half)} {
			list = append(list, api.Sig{R: r, S: s}, api.Sig{R: r, S: s, V: 1})
		}
	}
	return list
}

// badSigs are signatures that may not be, the first one of them none.
func badSigs() []api.Sig {
	list := []api.Sig{{}, {V: 1}, {R: api.U{1}}, {S: api.U{1}}, {R: whole, S: whole, V: 1}}
	for _, beyond := range noSecrets() {
		list = append(list, api.Sig{R: beyond, S: api.U{1}}, api.Sig{R: api.U{1}, S: beyond})
	}
	for _, high := range []api.U{less(half, -1), less(order, 1), {0, 0, 0, 1 << 63}} {
		list = append(list, api.Sig{R: api.U{1}, S: high, V: 1})
	}
	for _, v := range []int{-1, 2, 3, 27, 128, 255, 256, 257, 1 << 32, 1<<32 + 1, math.MinInt, math.MaxInt} {
		list = append(list, api.Sig{R: api.U{1}, S: api.U{1}, V: v})
	}
	return list
}

// note is some note of a kind that may be; change one that tells of no block.
func note(kind uint64) api.Note {
	n := api.Note{Kind: kind, Height: 300, Round: 5, Id: text(32), Sig: sig(kind)}
	if kind == api.MChange {
		n.Prepared = 3
	}
	return n
}

func change() api.Note { return api.Note{Kind: api.MChange, Height: 300, Round: 5, Sig: sig(5)} }

// wellNotes are notes that may be, but for their signatures, of which they have
// none.
func wellNotes() []api.Note {
	var list []api.Note
	for kind := range uint64(5) {
		// 0 stands for a change that tells of no block.
		n := api.Note{Kind: api.MChange, Height: 3, Round: 1}
		if kind != 0 {
			n = note(kind)
			n.Sig = api.Sig{}
		}
		for _, number := range numbers() {
			n := n
			n.Height = number
			list = append(list, n)
			n.Height, n.Round = 3, number
			if n.Prepared > number {
				n.Prepared = number
			}
			if kind == api.MChange && number == 0 {
				n.Id = ""
			}
			list = append(list, n)
			if kind == api.MChange && number > 0 {
				n.Round, n.Prepared = most, number
				list = append(list, n)
				n.Round = number
				list = append(list, n)
			}
		}
		if kind != 0 {
			for _, id := range []string{hash(0), hash(0xff), hash('i'), "\xA0" + text(31), strings.Repeat("\xC3\xA4", 16)} {
				n.Id = id
				list = append(list, n)
			}
		}
	}
	return unlike(list)
}

// unlike are the notes of a list, each once.
func unlike(l []api.Note) []api.Note {
	var made []api.Note
	seen := map[api.Note]bool{}
	for _, one := range l {
		if !seen[one] {
			seen[one] = true
			made = append(made, one)
		}
	}
	return made
}

// goodNotes are notes that may be.
func goodNotes() []api.Note {
	list := wellNotes()
	for i := range list {
		list[i].Sig = sig(uint64(i))
	}
	for _, one := range goodSigs() {
		for kind := range uint64(5) {
			n := change()
			if kind != 0 {
				n = note(kind)
			}
			n.Sig = one
			list = append(list, n)
		}
	}
	return unlike(list)
}

// illNotes are notes that may not be, whatever their signature, which may be.
func illNotes() []api.Note {
	var list []api.Note
	kinds := []uint64{0, 5, 6, 127, 128, 255, 256, 257, 258, 260, 1 << 32, 1<<32 + 1, 1 << 63, most - 1, most}
	for _, kind := range kinds {
		for _, n := range []api.Note{note(1), note(4), change(), {Sig: sig(1)}} {
			n.Kind = kind
			list = append(list, n)
		}
	}
	for kind := uint64(1); kind <= 4; kind++ {
		for _, size := range []int{0, 1, 2, 20, 31, 33, 55, 56, 63, 64, 65, 256 + 32, 4000, 5000, 1<<16 + 32} {
			n := note(kind)
			n.Id = text(size)
			list = append(list, n)
		}
		n := note(kind)
		n.Id = strings.Repeat("\xC3\xA4", 32)
		list = append(list, n)
		for _, prepared := range numbers() {
			n := note(kind)
			if n.Prepared = prepared; prepared > n.Round || prepared > 0 && kind != api.MChange {
				list = append(list, n)
			}
			if n.Id = ""; prepared > 0 || kind != api.MChange {
				list = append(list, n)
			}
		}
	}
	for _, n := range []api.Note{{Kind: api.MChange, Id: hash('i')}, {Kind: api.MChange, Round: 5, Id: hash('i')}, {Kind: api.MChange, Round: 5, Id: "i"},
		{Kind: api.MChange, Prepared: 1}, {Kind: api.MChange, Prepared: 1, Id: hash('i')}, {Kind: api.MChange, Round: most - 1, Prepared: most, Id: hash('i')}} {
		n.Sig = sig(1)
		list = append(list, n)
	}
	return unlike(list)
}

// badNotes are notes that may not be, by their signature too.
func badNotes() []api.Note {
	list := append(illNotes(), api.Note{})
	for _, one := range badSigs() {
		for kind := range uint64(5) {
			n := change()
			if kind != 0 {
				n = note(kind)
			}
			n.Sig = one
			list = append(list, n)
		}
	}
	return unlike(list)
}

// ready are blocks' bytes that were made, by how much there is in them.
var ready = map[[3]int]string{}

// blockOf are the bytes of a block of so many seals, transfers and bytes of vanity.
func blockOf(seals, txs, vanity int) string {
	key := [3]int{seals, txs, vanity}
	if ready[key] != "" {
		return ready[key]
	}
	b := api.Block{Header: api.Header{Parent: hash('p'), Height: 300, Root: hash('r'), Proposer: of('a'), Vanity: strings.Repeat("v", vanity), Validators: []string{of('a'), of('b')}}}
	for i := range seals {
		b.Header.Seals = append(b.Header.Seals, sig(uint64(i)))
	}
	for i := range uint64(txs) {
		b.Txs = append(b.Txs, api.Tx{To: of('t'), Amount: i, Sig: sig(i)})
	}
	var errno api.Errno
	if b.Header.Txs, errno = block.Sum(b.Txs); errno != api.OK {
		panic(errno)
	}
	made, errno := block.Bytes(b)
	if errno != api.OK {
		panic(errno)
	}
	ready[key] = made
	return made
}

// noBlocks are bytes of no block.
func noBlocks() []string {
	s := blockOf(2, 1, 0)
	return []string{"", "x", "\x00", "\x80", "\xC0", "\xff", s[1:], s[:len(s)-1], s + "\x00", s + "\x80", s + s, "\xC0" + s, text(len(s)), strings.Replace(s, hash('p'), hash('p')+"p", 1),
		plainText(s), plainList(s), strings.Repeat("\xC0", 4000), strings.Repeat("x", 1<<20)}
}

// notes are so many of a kind, which may be.
func notes(kind uint64, many int) []api.Note {
	var made []api.Note
	for i := range many {
		n := note(kind)
		if kind == api.MChange && i%2 == 1 {
			n = change()
		}
		n.Sig = sig(uint64(i))
		made = append(made, n)
	}
	return made
}

// propose is a proposal of so many changes and prepares.
func propose(changes, prepares int) api.Msg {
	return api.Msg{Note: note(api.MPropose), Block: blockOf(0, 1, 4), Changes: notes(api.MChange, changes), Prepares: notes(api.MPrepare, prepares)}
}

// locked is a change of a block, with so many prepares.
func locked(prepares int) api.Msg {
	return api.Msg{Note: note(api.MChange), Block: blockOf(0, 1, 4), Prepares: notes(api.MPrepare, prepares)}
}

// kinds are one message of each kind, the changes with and without a block.
func kinds() []api.Msg {
	return []api.Msg{propose(3, 2), {Note: note(api.MPrepare)}, {Note: note(api.MCommit), Seal: sig(77)}, locked(2), {Note: change()}}
}

// goods are messages that may be, and are not too long, no two of them the same.
func goods() []api.Msg {
	list := kinds()
	for _, n := range goodNotes() {
		m := api.Msg{Note: n}
		switch {
		case n.Kind == api.MPropose || n.Prepared > 0:
			m.Block = blockOf(0, 1, 0)
		case n.Kind == api.MCommit:
			m.Seal = sig(3)
		}
		list = append(list, m)
		if n.Kind == api.MChange {
			m := propose(0, 1)
			m.Changes = []api.Note{change(), n}
			list = append(list, m)
		}
		if n.Kind == api.MPrepare {
			m := locked(0)
			m.Prepares = []api.Note{note(api.MPrepare), n}
			list = append(list, m)
		}
	}
	for _, one := range goodSigs() {
		list = append(list, api.Msg{Note: note(api.MCommit), Seal: one})
	}
	for _, many := range []int{0, 1, 2, 3, 4, 15, 16} {
		list = append(list, propose(many, 0), propose(0, many), propose(many, 3), locked(many))
	}
	for _, b := range []string{blockOf(0, 0, 0), blockOf(0, 4, 8), blockOf(16, 4, 8), blockOf(1, 0, 1)} {
		m, n := propose(1, 1), locked(1)
		m.Block, n.Block = b, b
		list = append(list, m, n)
	}
	// One note more than once, and such that have to do with nothing else.
	m := propose(4, 4)
	m.Changes[3], m.Prepares[3] = m.Changes[0], m.Prepares[0]
	m.Changes[1].Height, m.Prepares[1].Round, m.Prepares[2].Id = 9, most, hash('o')
	list = append(list, m)
	var made []api.Msg
	for _, m := range list {
		if !slices.ContainsFunc(made, func(one api.Msg) bool { return alike(one, m) }) {
			made = append(made, m)
		}
	}
	return made
}

// bads are messages that may not be.
func bads() []api.Msg {
	list := []api.Msg{{}, {Block: blockOf(0, 1, 0)}, {Seal: sig(1)}}
	for _, n := range badNotes() {
		list = append(list, api.Msg{Note: n}, api.Msg{Note: n, Seal: sig(3)}, api.Msg{Note: n, Block: blockOf(0, 1, 0)})
		m := propose(2, 2)
		m.Changes[1] = n
		list = append(list, m)
		for _, m := range []api.Msg{propose(2, 2), locked(2)} {
			m.Prepares[0] = n
			list = append(list, m)
		}
	}
	for _, m := range kinds() {
		for _, one := range append(badSigs()[1:], sig(1)) {
			n := m
			if n.Seal = one; m.Kind != api.MCommit || one != sig(1) {
				list = append(list, n)
			}
		}
	}
	list = append(list, api.Msg{Note: note(api.MCommit)})
	for _, b := range noBlocks() {
		for _, m := range []api.Msg{propose(1, 1), locked(1)} {
			m.Block = b
			list = append(list, m)
		}
	}
	for _, many := range []int{17, 18, 32, 40, 41, 200} {
		list = append(list, propose(many, 0), propose(0, many), locked(many))
	}
	return append(list, laden()...)
}

// laden are messages with something that their kind does not carry.
func laden() []api.Msg {
	var list []api.Msg
	for _, n := range []api.Note{note(api.MPrepare), note(api.MCommit), change()} {
		m := api.Msg{Note: n}
		if n.Kind == api.MCommit {
			m.Seal = sig(3)
		}
		for _, b := range append(noBlocks()[1:], blockOf(0, 1, 0)) {
			m.Block = b
			list = append(list, m)
		}
		m.Block = ""
		for _, kind := range []uint64{1, 2, 3, 4} {
			with, also := m, m
			with.Changes, also.Prepares = notes(kind, 1), notes(kind, 1)
			list = append(list, with, also)
		}
	}
	m := locked(1)
	m.Changes = notes(api.MChange, 1)
	list = append(list, m)
	for _, kind := range []uint64{1, 2, 3, 4} {
		m, n, o := propose(1, 1), propose(1, 1), locked(1)
		if m.Changes = notes(kind, 3); kind != api.MChange {
			list = append(list, m)
		}
		n.Prepares, o.Prepares = notes(kind, 3), notes(kind, 3)
		if kind != api.MPrepare {
			list = append(list, n, o)
		}
	}
	return list
}

// wallets are addresses that were asked.
var wallets = map[api.U]string{}

// wallet is a secret's address.
func wallet(secret api.U) string {
	if wallets[secret] == "" {
		made, errno := sign.Address(secret)
		if errno != api.OK {
			panic(secret)
		}
		wallets[secret] = made
	}
	return wallets[secret]
}

// copied is a message with lists of its own.
func copied(m api.Msg) api.Msg {
	m.Changes, m.Prepares = slices.Clone(m.Changes), slices.Clone(m.Prepares)
	return m
}

// alike says if two messages are the same.
func alike(a, b api.Msg) bool {
	return a.Note == b.Note && a.Seal == b.Seal && a.Block == b.Block && slices.Equal(a.Changes, b.Changes) && slices.Equal(a.Prepares, b.Prepares)
}

// shown is a note as far as a message needs it.
func shown(n api.Note) string {
	return fmt.Sprintf("[%d Height %d Round %d Id %d bytes %.32x Prepared %d Sig %x]", n.Kind, n.Height, n.Round, len(n.Id), n.Id, n.Prepared, n.Sig)
}

// flat is a message so.
func flat(m api.Msg) string {
	made := fmt.Sprintf("%s Seal %x Block %d bytes %.20x", shown(m.Note), m.Seal, len(m.Block), m.Block)
	for _, l := range [][]api.Note{m.Changes, m.Prepares} {
		made += fmt.Sprintf(", %d:", len(l))
		for _, one := range l[:min(20, len(l))] {
			made += " " + shown(one)
		}
	}
	return made
}

// same holds bytes that a call answers against what is wanted.
func same(t *testing.T, call, what, got string, e api.Errno, want string, errno api.Errno) {
	t.Helper()
	if got != want || e != errno {
		t.Fatalf("%s of %.1500s answers %X, %d, not %X, %d", call, what, got, e, want, errno)
	}
}

// sameNote does so for a note.
func sameNote(t *testing.T, what string, got api.Note, e api.Errno, want api.Note, errno api.Errno) {
	t.Helper()
	if got != want || e != errno {
		t.Fatalf("Sign of %s answers %s, %d, not %s, %d", what, shown(got), e, shown(want), errno)
	}
}

// sameMsg does so for a message.
func sameMsg(t *testing.T, s string, got api.Msg, e api.Errno, want api.Msg, errno api.Errno) {
	t.Helper()
	if !alike(got, want) || e != errno || e != api.OK && (got.Changes != nil || got.Prepares != nil) {
		t.Fatalf("Read of %d bytes %.400X answers %s, %d, not %s, %d", len(s), s, flat(got), e, flat(want), errno)
	}
}

// right holds Right against what the chapter says.
func right(t *testing.T, n api.Note) {
	t.Helper()
	if want := plainRight(n); msg.Right(n) != want {
		t.Fatalf("Right of %s is not %t", shown(n), want)
	}
}

// plainly holds all that is told of a message, but its sender, against what the
// chapter says, and that it stays as it was.
func plainly(t *testing.T, m api.Msg) {
	t.Helper()
	was := copied(m)
	right(t, m.Note)
	if want := plainWhole(m); msg.Whole(m) != want {
		t.Fatalf("Whole of %.1500s is not %t", flat(m), want)
	}
	got, e := msg.Bytes(m)
	want, errno := plainBytes(m)
	same(t, "Bytes", flat(m), got, e, want, errno)
	if !alike(m, was) {
		t.Fatalf("%.1500s has become %.1500s", flat(was), flat(m))
	}
}

// read holds Read against what the chapter says, and answers if there is one.
func read(t *testing.T, s string) bool {
	t.Helper()
	got, e := msg.Read(s)
	want, errno := plainRead(s)
	sameMsg(t, s, got, e, want, errno)
	if e != api.OK {
		return false
	}
	back, e := msg.Bytes(got)
	same(t, "Bytes", flat(got), back, e, s, api.OK)
	return true
}

// none holds that bytes are no message's.
func none(t *testing.T, s string) {
	t.Helper()
	got, e := msg.Read(s)
	sameMsg(t, s, got, e, api.Msg{}, api.ErrForm)
	if read(t, s) {
		t.Fatalf("%X are a message's", s)
	}
}
