package msg_test

import (
	"math/rand/v2"
	"slices"
	"strings"
	"testing"
	"unsafe"

	"ecclesia/api"
	"ecclesia/block"
	"ecclesia/keccak"
	"ecclesia/msg"
	"ecclesia/sign"
)

// told is a note with what is made of it, in hexadecimal.
type told struct {
	secret          api.U
	note            api.Note
	sig, begins, is string
	size            int
}

func tolds() []told {
	rising := "000102030405060708090A0B0C0D0E0F101112131415161718191A1B1C1D1E1F"
	return []told{
		{api.U{7}, api.Note{Kind: api.MPrepare, Height: 3, Round: 1, Id: hash('i')},
			"52E6253B61921B5A4B358D80969FA02508719985869955692D50DBC2658DE242387CDE0FD080011684489722A142878F3C3DE9AFF67974A38261F2B68D40FFBC00",
			"F868020301A0696969696969", "D41C057FD1C78805AAC12B0A94A405C0461A6FBB", 106},
		{api.U{1}, api.Note{Kind: api.MPropose, Id: hash(0)},
			"F4003C9EF5ABF14B1304219677AF38ED14B410AB729E78B2D805D3FC66FE6C3D5F021FC9DF99F262A13D21071FA7BAC9EA7E10D4ED61F57CCDEADD6D5BF52AE101",
			"F868018080A0000000000000", "7E5F4552091A69125D5DFCB7B8C2659029395BDF", 106},
		{less(order, 1), api.Note{Kind: api.MCommit, Height: most, Round: most, Id: hash(0xff)},
			"636D63F65FA7BC3D4DD1FC43CA693AA8E5DD5A577A85400B8D2E560FB3E08BBE4E2B1AF7A02879EEC621417E593F416EB6530719E6F262CF864095E29391642701",
			"F8780388FFFFFFFFFFFFFFFF", "80C0DBF239224071C59DD8970AB9D542E3414AB2", 122},
		{api.U{3}, api.Note{Kind: api.MChange, Height: 128},
			"D222BB70C0B7456BEFC0D224DC82E6033F617BCBA4B7C45A59B1B4892AE0A47B6AEA641695AC3797707C0B5DE91AF7C60C4ECED71A0B6279E29A0F8ECA91514800",
			"F849048180808080B841D222", "6813EB9362372EEF6200F3B1DBC3F819671CBA69", 75},
		{api.U{2}, api.Note{Kind: api.MChange, Height: 1000, Round: 256, Id: hexed(rising), Prepared: 256},
			"C119A4A98661F7A8BD89418172D8783797CA14D04926A832F1D6A6A9BDA49DB81CEF069B8E8EF4F63DCAFFE0FDE49ADB5E5362D4E7218BA952BB18EE7396DAA600",
			"F86E048203E8820100A00001", "2B5AD5C4795C026514F8317C7A215E218DCCD6CF", 112},
	}
}

// signed is a note that is written out, with its signature.
func (c told) signed() api.Note {
	n := c.note
	n.Sig = cutSig(hexed(c.sig))
	return n
}

// TestToldNotes is for P21.1: answers that are written out.
func TestToldNotes(t *testing.T) {
	for _, c := range tolds() {
		n, e := msg.Sign(c.secret, c.note)
		sameNote(t, shown(c.note), n, e, c.signed(), api.OK)
		if !msg.Right(n) {
			t.Errorf("%s may not be", shown(n))
		}
		got, e := msg.Sender(n)
		same(t, "Sender", shown(n), got, e, hexed(c.is), api.OK)
	}
}

// TestTold is for P21.2: bytes that are written out, as far as they begin, with the
// sum of them, and with the note's record in them.
func TestTold(t *testing.T) {
	l := tolds()
	prepare, propose, commit, bare, change := l[0].signed(), l[1].signed(), l[2].signed(), l[3].signed(), l[4].signed()
	seal := cutSig(hexed("F00FF5AE2835B1B77776A8BBE135BDFB35D8A9FA6877FD22B2E275AA965672B51953224CA939CC4D43AF699606DF65D5E7DFBC051B0F308FB4D59EDEEFB27F5801"))
	h := api.Header{Parent: hash(0), Root: hash(0), Txs: keccak.Sum(""), Proposer: of(0), Validators: []string{of(0)}}
	least, e := block.Bytes(api.Block{Header: h})
	if len(least) != 154 || e != api.OK {
		t.Fatal(len(least), e)
	}
	for _, c := range []struct {
		m           api.Msg
		at, size    int
		begins, sum string
	}{
		{api.Msg{Note: prepare}, 0, 114, "F870B86AF868020301A06969", "9EF3F581514F14A5CDB0FB5F923D81B5DE82852D9FB61C5C7C3EFD365C4135E7"},
		{api.Msg{Note: commit, Seal: seal}, 2, 196, "F8C2B87AF8780388FFFFFFFFFFFFFFFF", "9BC58A07D43DD8C2A1E6CB27C46977886F64E1AAA24F47F779282DED01746B1A"},
		{api.Msg{Note: bare}, 3, 83, "F851B84BF849048180808080", "B4DE3EFA2645274BB993AB97697B4B908434F7E85CB07A0FC21084A2EFA4DA4A"},
		{api.Msg{Note: change, Block: least, Prepares: []api.Note{prepare, prepare}}, 4, 493, "F901EAB870F86E048203E8820100A00001", "D3BF4E12E29B8CE92F80C8F817CA0F2E25BD7D152F51BC64F8BD8D400E184D6B"},
		{api.Msg{Note: propose, Block: least}, 1, 270, "F9010BB86AF868018080A000", "EF9914F574FBF2E4F851DFC9109D2AD0C73040D9C6583648B0BCA88A0FF7BBB6"},
		{api.Msg{Note: propose, Block: least, Changes: []api.Note{bare, change, bare}, Prepares: []api.Note{prepare}}, 1, 649, "F90286B86AF868018080A000", "309054FCA9F297A3C4A884F166D530AC2DBE32F88D85D70B039F6C79FE470BCB"},
	} {
		s, e := msg.Bytes(c.m)
		if len(s) != c.size || !strings.HasPrefix(s, hexed(c.begins)) || keccak.Sum(s) != hexed(c.sum) || e != api.OK {
			t.Errorf("Bytes of %s answers %X, %d", flat(c.m), s, e)
		}
		n := l[c.at]
		record := plainNote(n.signed())
		if len(record) != n.size || !strings.HasPrefix(record, hexed(n.begins)) || !strings.Contains(s, record) {
			t.Errorf("%s is not in %X", shown(n.note), s)
		}
		if !msg.Whole(c.m) {
			t.Errorf("%s may not be", flat(c.m))
		}
		back, e := msg.Read(s)
		sameMsg(t, s, back, e, c.m, api.OK)
	}
}

// TestExample is for P21.1 and P21.2: the chapter's example, and what is told of it
// else.
func TestExample(t *testing.T) {
	if msg.Right(api.Note{}) || msg.Whole(api.Msg{}) {
		t.Error("the zero note may be")
	}
	got, e := msg.Sender(api.Note{})
	same(t, "Sender", "zero", got, e, "", api.ErrArg)
	got, e = msg.Bytes(api.Msg{})
	same(t, "Bytes", "zero", got, e, "", api.ErrArg)
	n, e := msg.Sign(api.U{1}, api.Note{})
	sameNote(t, "zero", n, e, api.Note{}, api.ErrArg)
	none(t, "")
	none(t, plainRecord(api.Msg{}))
}

// TestGoodNotes is for P21.1: notes that may be, and whose they are.
func TestGoodNotes(t *testing.T) {
	list := goodNotes()
	if len(list) < 150 {
		t.Fatalf("%d notes", len(list))
	}
	found := map[api.Errno]int{}
	for _, n := range list {
		if !msg.Right(n) {
			t.Fatalf("%s may not be", shown(n))
		}
		right(t, n)
		got, e := msg.Sender(n)
		want, errno := plainSender(n)
		same(t, "Sender", shown(n), got, e, want, errno)
		found[e]++
	}
	if found[api.OK] < 20 || found[api.ErrSign] < 20 || len(found) != 2 {
		t.Errorf("notes of someone, and of no one: %v", found)
	}
}

// TestBadNotes is for P21.1: notes that may not be have no sender.
func TestBadNotes(t *testing.T) {
	for _, n := range badNotes() {
		if msg.Right(n) {
			t.Fatalf("%s may be", shown(n))
		}
		right(t, n)
		got, e := msg.Sender(n)
		same(t, "Sender", shown(n), got, e, "", api.ErrArg)
	}
}

// TestNotes is for P21.1: each kind with each number of rounds, prepared or not, and
// with Ids of some sizes.
func TestNotes(t *testing.T) {
	for kind := range uint64(7) {
		for _, round := range []uint64{0, 1, 2, 5, 1 << 32, most - 1, most} {
			for _, prepared := range []uint64{0, 1, 2, 3, 5, 6, round - 1, round, round + 1, most} {
				for _, size := range []int{0, 1, 20, 31, 32, 33, 64} {
					n := api.Note{Kind: kind, Height: 1, Round: round, Id: text(size), Prepared: prepared, Sig: sig(1)}
					right(t, n)
					m := api.Msg{Note: n, Block: blockOf(0, 1, 4)}
					plainly(t, m)
					m.Block = ""
					plainly(t, m)
				}
			}
		}
	}
}

// TestSign is for P21.1 and P21.3: what is signed may be, is the note but for its
// signature, whatever that was, and its sender is the secret's address.
func TestSign(t *testing.T) {
	l := secrets()
	for i, n := range wellNotes() {
		secret := l[i%len(l)]
		want, errno := plainSign(secret, n)
		if errno != api.OK {
			t.Fatal(errno)
		}
		// Each of these signatures goes.
		n.Sig = append(badSigs(), goodSigs()...)[i%20]
		got, e := msg.Sign(secret, n)
		sameNote(t, shown(n), got, e, want, api.OK)
		if !msg.Right(got) {
			t.Fatalf("%s may not be", shown(got))
		}
		who, e := msg.Sender(got)
		same(t, "Sender", shown(got), who, e, wallet(secret), api.OK)
	}
	for _, secret := range l {
		for kind := uint64(1); kind <= 4; kind++ {
			n, e := msg.Sign(secret, note(kind))
			want, errno := plainSign(secret, note(kind))
			sameNote(t, shown(note(kind)), n, e, want, errno)
			who, e := msg.Sender(n)
			same(t, "Sender", shown(n), who, e, wallet(secret), api.OK)
		}
	}
}

// TestNoSign is for P21.1: notes that are not well, and numbers that are no secrets,
// whatever the signature.
func TestNoSign(t *testing.T) {
	for _, n := range illNotes() {
		got, e := msg.Sign(api.U{7}, n)
		sameNote(t, shown(n), got, e, api.Note{}, api.ErrArg)
		n.Sig = api.Sig{}
		got, e = msg.Sign(api.U{7}, n)
		sameNote(t, shown(n), got, e, api.Note{}, api.ErrArg)
		got, e = msg.Sign(api.U{}, n)
		sameNote(t, shown(n), got, e, api.Note{}, api.ErrArg)
	}
	for _, secret := range noSecrets() {
		for kind := range uint64(5) {
			n := change()
			if kind != 0 {
				n = note(kind)
			}
			got, e := msg.Sign(secret, n)
			sameNote(t, shown(n), got, e, api.Note{}, api.ErrArg)
		}
	}
}

// TestSignedOnce is for P21.1: each thing in a note but its signature is signed, so
// that one's signature is another sender's, or no one's, on any other note.
func TestSignedOnce(t *testing.T) {
	base, e := msg.Sign(api.U{7}, note(api.MChange))
	if e != api.OK {
		t.Fatal(e)
	}
	who := wallet(api.U{7})
	for _, change := range []func(n *api.Note){
		func(n *api.Note) { n.Height++ }, func(n *api.Note) { n.Round++ }, func(n *api.Note) { n.Id = hash('o') },
		func(n *api.Note) { n.Prepared-- }, func(n *api.Note) { n.Prepared, n.Id = 0, "" }, func(n *api.Note) { n.Height, n.Round = n.Round, n.Height },
		func(n *api.Note) { n.Kind, n.Prepared = api.MPropose, 0 }, func(n *api.Note) { n.Kind, n.Prepared = api.MPrepare, 0 },
		func(n *api.Note) { n.Kind, n.Prepared = api.MCommit, 0 }, func(n *api.Note) { n.Sig.V = 1 - n.Sig.V },
	} {
		n := base
		change(&n)
		right(t, n)
		got, e := msg.Sender(n)
		want, errno := plainSender(n)
		same(t, "Sender", shown(n), got, e, want, errno)
		if got == who {
			t.Errorf("%s is signed as %s", shown(base), shown(n))
		}
	}
	// Nothing but the digest is signed: not the record, not what has no label.
	for _, digest := range []string{keccak.Sum(plainNote(base)), keccak.Sum(plainList(plainFields(base)[:5]...))} {
		other, e := sign.Sign(api.U{7}, digest)
		if other == base.Sig || e != api.OK {
			t.Error(other, e)
		}
	}
}

// TestGood is for P21.1 to P21.3: messages that may be, and the way back from their
// bytes, which no two of them share.
func TestGood(t *testing.T) {
	seen := map[string]bool{}
	list := goods()
	for _, m := range list {
		if !msg.Whole(m) {
			t.Fatalf("%s may not be", flat(m))
		}
		plainly(t, m)
		s, e := msg.Bytes(m)
		same(t, "Bytes", flat(m), s, e, plainRecord(m), api.OK)
		back, e := msg.Read(s)
		sameMsg(t, s, back, e, m, api.OK)
		read(t, s)
		seen[s] = true
	}
	if len(seen) != len(list) || len(list) < 250 {
		t.Errorf("%d bytes of %d messages", len(seen), len(list))
	}
}

// TestBad is for P21.1 and P21.2: messages that may not be; their records are none's.
func TestBad(t *testing.T) {
	for _, m := range bads() {
		if msg.Whole(m) {
			t.Fatalf("%.1500s may be", flat(m))
		}
		got, e := msg.Bytes(m)
		same(t, "Bytes", flat(m), got, e, "", api.ErrArg)
		plainly(t, m)
		// A V of more than a byte is another one there.
		if all := append(append([]api.Note{m.Note, {Sig: m.Seal}}, m.Changes...), m.Prepares...); !slices.ContainsFunc(all, func(one api.Note) bool { return one.Sig.V < 0 || one.Sig.V > 255 }) {
			none(t, plainRecord(m))
		}
	}
}

// TestCarries is for P21.1: each kind with and without each thing that comes along.
func TestCarries(t *testing.T) {
	whole := 0
	for _, base := range kinds() {
		for with := range 16 {
			m := api.Msg{Note: base.Note}
			if with&1 != 0 {
				m.Seal = sig(4)
			}
			if with&2 != 0 {
				m.Block = blockOf(1, 1, 1)
			}
			if with&4 != 0 {
				m.Changes = notes(api.MChange, 2)
			}
			if with&8 != 0 {
				m.Prepares = notes(api.MPrepare, 2)
			}
			plainly(t, m)
			if read(t, plainRecord(m)) != msg.Whole(m) {
				t.Errorf("Read of %s", flat(m))
			}
			if msg.Whole(m) {
				whole++
			}
		}
	}
	// Of a proposal four, of a prepare one, of a commit one, of changes two and one.
	if whole != 9 {
		t.Errorf("%d may be", whole)
	}
}

// TestMany is for P21.1: at most 16 changes and 16 prepares.
func TestMany(t *testing.T) {
	for many := range 40 {
		for _, m := range []api.Msg{propose(many, 0), propose(0, many), locked(many), propose(many, 1), propose(1, many), propose(many, many)} {
			if msg.Whole(m) != (many <= 16) {
				t.Errorf("%d notes: Whole is not %t", many, many <= 16)
			}
			plainly(t, m)
			if s := plainRecord(m); len(s) <= 4000 && read(t, s) != (many <= 16) {
				t.Errorf("%d notes: Read", many)
			}
		}
		for at := range many {
			m, n := propose(many, 2), locked(many)
			m.Changes[at].Sig.V, n.Prepares[at].Sig.V = 2, 2
			plainly(t, m)
			plainly(t, n)
			m.Changes[at], n.Prepares[at] = note(api.MPrepare), change()
			plainly(t, m)
			plainly(t, n)
		}
	}
}

// sized is a proposal of so many bytes.
func sized(t *testing.T, size int) api.Msg {
	t.Helper()
	for place := range 17 * 16 {
		m := propose(16, place%17)
		m.Height, m.Block = 0, blockOf(place/17, 1, 0)
		// What is short goes into the height, and into the block's vanity.
		short := size - len(plainRecord(m))
		if short < 0 || short > 16 {
			continue
		}
		for vanity := range 9 {
			m.Height = most >> (64 - 8*min(8, short))
			m.Block = blockOf(place/17, 1, vanity)
			if len(plainRecord(m)) == size {
				return m
			}
		}
	}
	t.Fatalf("no message of %d bytes", size)
	return api.Msg{}
}

// TestLong is for P21.1 and P21.2: messages that may be, but are too long.
func TestLong(t *testing.T) {
	for _, size := range []int{3500, 3990, 3998, 3999, 4000, 4001, 4002, 4010, 4100} {
		m := sized(t, size)
		if !msg.Whole(m) {
			t.Fatalf("%s may not be", flat(m))
		}
		plainly(t, m)
		s, e := msg.Bytes(m)
		if size > 4000 {
			same(t, "Bytes", flat(m), s, e, "", api.ErrLong)
			none(t, plainRecord(m))
			continue
		}
		same(t, "Bytes", flat(m), s, e, plainRecord(m), api.OK)
		if !read(t, s) {
			t.Errorf("%d bytes can't be read", size)
		}
	}
	// As much in it as there may be: what may not be is told first.
	m := propose(16, 16)
	m.Block = blockOf(16, 4, 8)
	plainly(t, m)
	got, e := msg.Bytes(m)
	same(t, "Bytes", flat(m), got, e, "", api.ErrLong)
	m.Seal = sig(1)
	got, e = msg.Bytes(m)
	same(t, "Bytes", flat(m), got, e, "", api.ErrArg)
}

// TestHuge is for P21.1 and P21.2: what is far too long ends soon.
func TestHuge(t *testing.T) {
	many, bytes := make([]api.Note, 1<<18), strings.Repeat("\xC0", 1<<24)
	for _, m := range kinds() {
		n := m
		n.Changes = many
		plainly(t, n)
		n = m
		n.Prepares = many
		plainly(t, n)
		n = m
		n.Block = bytes
		plainly(t, n)
		n = m
		n.Id = bytes
		plainly(t, n)
		got, e := msg.Sign(api.U{7}, n.Note)
		sameNote(t, "a long Id", got, e, api.Note{}, api.ErrArg)
	}
	got, e := msg.Read(bytes)
	sameMsg(t, "", got, e, api.Msg{}, api.ErrForm)
}

// TestReadBits is for P21.2: bytes of which a bit is turned, or one is left out or
// put in, are those of another message, or of none.
func TestReadBits(t *testing.T) {
	are, missing := 0, 0
	m := locked(1)
	m.Block = blockOf(0, 0, 0)
	for _, m := range append(kinds()[1:3], m, kinds()[4], propose(1, 1)) {
		s, _ := msg.Bytes(m)
		for at := range len(s) {
			for bit := range 8 {
				made := []byte(s)
				made[at] ^= 1 << bit
				if read(t, string(made)) {
					are++
				} else {
					missing++
				}
			}
			none(t, s[:at])
			none(t, s[:at]+s[at+1:])
			none(t, s[:at]+"\x00"+s[at:])
			none(t, s[:at]+"\x01"+s[at:])
		}
		for _, behind := range []string{"\x00", "\x80", "\xC0", "x", s} {
			none(t, s+behind)
			none(t, behind+s)
		}
	}
	if are < 1000 || missing < 1000 {
		t.Errorf("%d are a message's, %d none's", are, missing)
	}
}

// changed is the record of a message with another item in one place.
func changed(m api.Msg, at int, item string) string {
	parts := plainParts(m)
	parts[at] = item
	return plainList(parts...)
}

// TestReadParts is for P21.2: lists with a part too many or too few, or with two of
// them turned about, or with one that is something else.
func TestReadParts(t *testing.T) {
	for _, m := range kinds() {
		parts := plainParts(m)
		if !read(t, plainList(parts...)) {
			t.Errorf("%s can't be read", flat(m))
		}
		for at := range parts {
			none(t, plainList(slices.Delete(slices.Clone(parts), at, at+1)...))
			for _, more := range append(parts, "\x80", "\xC0", "\x00", "\x01", plainText("xx")) {
				none(t, plainList(slices.Insert(slices.Clone(parts), at, more)...))
				none(t, plainList(append(slices.Clone(parts), more)...))
				read(t, changed(m, at, more))
			}
			for other := range at {
				turned := slices.Clone(parts)
				turned[at], turned[other] = turned[other], turned[at]
				if turned[at] != parts[at] {
					none(t, plainList(turned...))
				}
			}
			none(t, changed(m, at, ""))
			none(t, changed(m, at, plainList(parts[at])))
			none(t, changed(m, at, plainText(parts[at])+"\x80"))
		}
		none(t, strings.Join(parts, ""))
		none(t, plainList(plainList(parts...)))
		none(t, plainText(plainList(parts...)))
		none(t, plainText(strings.Join(parts, "")))
		none(t, plainNote(m.Note))
		none(t, plainText(plainNote(m.Note)))
	}
	none(t, plainList())
}

// TestReadKinds is for P21.2: parts that are bytes in the place of lists, or lists in
// the place of bytes, also where there is nothing in them.
func TestReadKinds(t *testing.T) {
	for _, m := range kinds() {
		for at, part := range plainParts(m) {
			inner, _, _ := cut(part)
			other := plainList(inner)
			if at > 2 {
				other = plainText(inner)
			}
			none(t, changed(m, at, other))
		}
		record := plainNote(m.Note)
		none(t, changed(m, 0, record))
		none(t, changed(m, 0, plainList(plainText(record))))
		none(t, changed(m, 1, "\xC0"))
		none(t, changed(m, 2, "\xC0"))
		none(t, changed(m, 3, "\x80"))
		none(t, changed(m, 4, "\x80"))
	}
	// Of notes that are lists themselves, not records as bytes, none is read.
	m := propose(1, 1)
	one, other := plainNote(m.Changes[0]), plainNote(m.Prepares[0])
	none(t, changed(m, 3, plainList(one)))
	none(t, changed(m, 4, plainList(other)))
	none(t, changed(m, 3, one))
	none(t, changed(m, 4, other))
	none(t, changed(m, 3, plainList(plainText(one), plainList())))
	none(t, changed(m, 4, plainList(plainText(other), "\x80")))
	if !read(t, changed(m, 3, plainList(plainText(one), plainText(one)))) || !read(t, changed(m, 4, "\xC0")) {
		t.Error("other notes can't be read")
	}
}

// TestReadSeals is for P21.2: seals of all sizes, and those of 65 bytes that may not
// be; none is zero, as none is written for that.
func TestReadSeals(t *testing.T) {
	commit, others := kinds()[2], append(kinds()[:2:2], kinds()[3:]...)
	s := plainSig(sig(3))
	for size := range 100 {
		one := plainText((s + text(40))[:size])
		if read(t, changed(commit, 1, one)) != (size == 65) {
			t.Errorf("a seal of %d bytes", size)
		}
		for _, m := range others {
			if read(t, changed(m, 1, one)) != (size == 0) {
				t.Errorf("a seal of %d bytes of %s", size, shown(m.Note))
			}
		}
	}
	for v := range 256 {
		if read(t, changed(commit, 1, plainText(s[:64]+string([]byte{byte(v)})))) != (v < 2) {
			t.Errorf("a seal of V %d", v)
		}
	}
	for _, m := range kinds() {
		none(t, changed(m, 1, plainText(strings.Repeat("\x00", 65))))
		none(t, changed(m, 1, plainText(strings.Repeat("\xff", 65))))
		none(t, changed(m, 1, plainText(strings.Repeat("\x00", 32)+s[32:])))
		none(t, changed(m, 1, plainText(s[:32]+strings.Repeat("\x00", 32)+"\x00")))
	}
}

// noted is the record of a message with another item in one place of its note, or of
// its last prepare.
func noted(m api.Msg, prepare bool, at int, item string) string {
	n := m.Note
	if prepare {
		n = m.Prepares[len(m.Prepares)-1]
	}
	fields := plainFields(n)
	fields[at] = item
	if !prepare {
		return changed(m, 0, plainText(plainList(fields...)))
	}
	rest := plainRecords(m.Prepares[:len(m.Prepares)-1])
	inner, _, _ := cut(rest)
	return changed(m, 4, plainList(inner, plainText(plainList(fields...))))
}

// TestReadNotes is for P21.2: a note's numbers, Id and signature in other writings
// than their shortest one, or that are none.
func TestReadNotes(t *testing.T) {
	wrong := []string{"\x00", "\x81\x00", "\x81\x01", "\x81\x7f", "\x82\x00\x80", "\x83\x00\x00\x00", "\xB8\x01\x80", "\xB8\x02\x01\x00",
		"\x89\x01" + strings.Repeat("\x00", 8), "\x89\x00" + strings.Repeat("\xff", 8), "\x88\x00" + strings.Repeat("\xff", 7), "\xC0", "\xC1\x05", "\xC1\x80", "", "\x05\x05"}
	for _, prepare := range []bool{false, true} {
		for _, m := range []api.Msg{propose(1, 2), locked(2)} {
			for _, at := range []int{0, 1, 2, 4} {
				for _, n := range numbers() {
					is := read(t, noted(m, prepare, at, plainNumber(n)))
					if (at == 1 || at == 2 && (m.Kind != api.MChange || prepare || n >= 3)) && !is {
						t.Errorf("%d can't be read", n)
					}
				}
				for _, one := range wrong {
					none(t, noted(m, prepare, at, one))
				}
			}
			for size := range 70 {
				if read(t, noted(m, prepare, 3, plainText(text(size)))) != (size == 32) {
					t.Errorf("an Id of %d bytes", size)
				}
				none(t, noted(m, prepare, 5, plainText(plainSig(sig(1))[:min(size, 64)])))
			}
			for v := range 256 {
				if read(t, noted(m, prepare, 5, plainText(plainSig(sig(1))[:64]+string([]byte{byte(v)})))) != (v < 2) {
					t.Errorf("a signature of V %d", v)
				}
			}
			for _, one := range []string{"\xC0", plainList(plainText(text(32))), plainList("\x05"), ""} {
				none(t, noted(m, prepare, 3, one))
				none(t, noted(m, prepare, 5, one))
			}
			none(t, noted(m, prepare, 5, plainText(plainSig(sig(1))+"\x00")))
			none(t, noted(m, prepare, 5, plainText(strings.Repeat("\x00", 65))))
		}
	}
}

// TestReadRecords is for P21.2: records with an item too many or too few, or with
// something behind them.
func TestReadRecords(t *testing.T) {
	for _, m := range kinds() {
		fields := plainFields(m.Note)
		record := func(l []string) string { return changed(m, 0, plainText(plainList(l...))) }
		if !read(t, record(fields)) {
			t.Error("a record as it is can't be read")
		}
		for at := range fields {
			none(t, record(slices.Delete(slices.Clone(fields), at, at+1)))
			for _, more := range []string{"\x80", "\xC0", "\x01", fields[at]} {
				none(t, record(slices.Insert(slices.Clone(fields), at, more)))
				none(t, record(append(slices.Clone(fields), more)))
			}
		}
		whole := plainNote(m.Note)
		for _, other := range []string{whole + "\x80", "\x80" + whole, whole[1:], whole[:len(whole)-1], whole + whole, "\xF9\x00" + whole[1:], "", "\x80", "\xC0", "x", text(len(whole))} {
			none(t, changed(m, 0, plainText(other)))
		}
		none(t, changed(m, 0, plainText(plainList("\x84note", strings.Join(fields[:5], "")))))
	}
}

// TestReadHeads is for P21.2: heads in other writings than the shortest one.
func TestReadHeads(t *testing.T) {
	m := propose(1, 1)
	s, _ := msg.Bytes(m)
	inner := strings.Join(plainParts(m), "")
	size := string([]byte{byte(len(inner) >> 8), byte(len(inner))})
	if s != "\xF9"+size+inner {
		t.Fatalf("%X", s)
	}
	none(t, "\xFA\x00"+size+inner)
	none(t, "\xFF\x00\x00\x00\x00\x00\x00"+size+inner)
	none(t, "\xB9"+size+inner)
	none(t, "\xF8"+size[1:]+inner)
	for at, part := range plainParts(m) {
		one, _, _ := cut(part)
		first := byte(0xB9)
		if at > 2 {
			first = 0xF9
		}
		none(t, changed(m, at, string([]byte{first, byte(len(one) >> 8), byte(len(one))})+one+"\x80"))
		if len(one) < 256 {
			none(t, changed(m, at, string([]byte{first, 0, byte(len(one))})+one))
		}
	}
}

// TestReadOther is for P21.2: bytes that are something else, too long or too deep;
// each of these is ErrForm too.
func TestReadOther(t *testing.T) {
	m := propose(1, 1)
	s, _ := msg.Bytes(m)
	for _, other := range []string{"", "\x00", "\x7f", "\x80", "\x81", "\xC0", "\xff", "\xF8", "\xF9", "\xBF", "\xC1\x80", "\xC1\xC0", "\xC5\x80\x80\x80\xC0\xC0", "\xC5\x80\x80\x80\x80\x80", "\xC5\xC0\xC0\xC0\xC0\xC0",
		text(20), text(150), text(500), m.Block, s[3:]} {
		none(t, other)
	}
	for _, size := range []int{3996, 3997, 3998, 3999, 4000, 4001, 5000, 1 << 20} {
		none(t, text(size))
		none(t, s+strings.Repeat("\x00", size))
		none(t, strings.Repeat("\x80", size))
		none(t, plainList(strings.Repeat("\x80", size)))
		none(t, changed(m, 3, plainList(strings.Repeat("\x80", size-600))))
		none(t, changed(m, 4, plainList(strings.Repeat("\x80", size-600))))
	}
	deep := "\xC0"
	for range 20 {
		deep = plainList(deep)
		none(t, deep)
		for at := range 5 {
			none(t, changed(m, at, deep))
		}
	}
}

// TestBothWays is for P21.3: messages and their bytes lead to one another, whatever
// is in them.
func TestBothWays(t *testing.T) {
	source := rand.New(rand.NewPCG(21, 2))
	word := source.Uint64
	bytes := func(size int) string {
		made := make([]byte, size)
		for i := range made {
			made[i] = byte(source.Uint32())
		}
		return string(made)
	}
	sig := func() api.Sig {
		return api.Sig{R: api.U{word(), word(), word(), word() >> 1}, S: api.U{word(), word(), word(), word() >> 2}, V: source.IntN(2)}
	}
	some := func(kind uint64) api.Note {
		n := api.Note{Kind: kind, Height: word() >> source.UintN(65), Round: word() >> source.UintN(65), Id: bytes(32), Sig: sig()}
		if kind == api.MChange {
			n.Prepared = source.Uint64N(n.Round/2 + 1)
			if n.Prepared == 0 {
				n.Id = ""
			}
		}
		return n
	}
	list := func(kind uint64) []api.Note {
		var made []api.Note
		for range source.IntN(17) {
			made = append(made, some(kind))
		}
		return made
	}
	long := 0
	for range 1500 {
		m := api.Msg{Note: some(1 + source.Uint64N(4))}
		if m.Kind == api.MPropose || m.Prepared > 0 {
			m.Block = blockOf(source.IntN(17), source.IntN(5), source.IntN(9))
			m.Prepares = list(api.MPrepare)
		}
		if m.Kind == api.MPropose {
			m.Changes = list(api.MChange)
		}
		if m.Kind == api.MCommit {
			m.Seal = sig()
		}
		plainly(t, m)
		s, e := msg.Bytes(m)
		if e == api.ErrLong && len(plainRecord(m)) > 4000 {
			long++
			continue
		}
		if e != api.OK {
			t.Fatalf("%s has no bytes", flat(m))
		}
		back, e := msg.Read(s)
		sameMsg(t, s, back, e, m, api.OK)
	}
	if long < 10 || long > 700 {
		t.Errorf("%d are too long", long)
	}
}

// TestOrder is for P21.3: messages of which the same notes stand otherwise have other
// bytes.
func TestOrder(t *testing.T) {
	m := propose(3, 3)
	s, _ := msg.Bytes(m)
	seen := map[string]bool{s: true}
	for _, l := range []func(m *api.Msg) []api.Note{func(m *api.Msg) []api.Note { return m.Changes }, func(m *api.Msg) []api.Note { return m.Prepares }} {
		for at := range 3 {
			for other := range at {
				turned := copied(m)
				notes := l(&turned)
				notes[at], notes[other] = notes[other], notes[at]
				plainly(t, turned)
				s, _ := msg.Bytes(turned)
				seen[s] = true
				back, e := msg.Read(s)
				sameMsg(t, s, back, e, turned, api.OK)
			}
		}
	}
	if len(seen) != 7 {
		t.Errorf("%d bytes of 7 messages", len(seen))
	}
}

// TestEmpty is for P21.2 (R3): nil lists count as empty ones.
func TestEmpty(t *testing.T) {
	for _, m := range append(kinds(), propose(0, 0), locked(0)) {
		if len(m.Changes)+len(m.Prepares) > 0 {
			continue
		}
		s, e := msg.Bytes(m)
		m.Changes, m.Prepares = []api.Note{}, []api.Note{}
		plainly(t, m)
		again, errno := msg.Bytes(m)
		same(t, "Bytes", flat(m), again, errno, s, e)
	}
}

// apart holds that two texts share no memory.
func apart(t *testing.T, call, one, other string) {
	t.Helper()
	start, begun := uintptr(unsafe.Pointer(unsafe.StringData(one))), uintptr(unsafe.Pointer(unsafe.StringData(other)))
	if start < begun+uintptr(len(other)) && begun < start+uintptr(len(one)) {
		t.Errorf("what %s answers shares memory with what it was handed", call)
	}
}

// TestAlone is for P21.1 and P21.2: an answer is new memory, and hangs on no call that
// was ahead of it.
func TestAlone(t *testing.T) {
	long := text(4000)
	n := note(api.MPrepare)
	n.Id = long[1000:1032]
	made, e := msg.Sign(api.U{7}, n)
	apart(t, "Sign", made.Id, long)
	want, errno := plainSign(api.U{7}, n)
	sameNote(t, shown(n), made, e, want, errno)
	m := propose(3, 3)
	s, _ := msg.Bytes(m)
	apart(t, "Bytes", s, m.Block)
	back, _ := msg.Read(s)
	texts := []string{back.Id, back.Block}
	for _, one := range append(slices.Clone(back.Changes), back.Prepares...) {
		texts = append(texts, one.Id)
	}
	for i, one := range texts {
		apart(t, "Read", one, s)
		for _, other := range texts[:i] {
			if one != "" && other != "" && unsafe.StringData(one) == unsafe.StringData(other) {
				t.Error("two texts of an answer share memory")
			}
		}
	}
	again, _ := msg.Read(s)
	again.Changes[0], again.Prepares[0] = api.Note{}, api.Note{}
	sameMsg(t, s, back, api.OK, m, api.OK)
	msg.Read("x")
	msg.Bytes(api.Msg{})
	msg.Sign(api.U{}, api.Note{})
	plainly(t, m)
	// Lists with room behind them: nothing is laid there.
	room, also := append(slices.Clone(m.Changes), change()), append(slices.Clone(m.Prepares), note(api.MPrepare))
	m.Changes, m.Prepares = room[:3], also[:3]
	plainly(t, m)
	if room[3] != change() || also[3] != note(api.MPrepare) {
		t.Error("a call writes behind a list")
	}
}

func FuzzRead(f *testing.F) {
	for _, m := range append(goods(), laden()...) {
		f.Add(plainRecord(m))
	}
	f.Fuzz(func(t *testing.T, s string) { read(t, s) })
}

// FuzzMsg is for P21.1 to P21.3: notes one behind the other, of 100 bytes each.
func FuzzMsg(f *testing.F) {
	f.Add(uint64(1), uint64(3), uint64(2), text(32), uint64(0), 3, 2, strings.Repeat("abcde", 100))
	f.Add(uint64(4), uint64(3), uint64(2), text(32), uint64(2), 3, 1, strings.Repeat("\x02", 300))
	f.Add(uint64(4), uint64(3), uint64(2), "", uint64(0), 0, 0, strings.Repeat("\x04", 100))
	f.Add(uint64(3), uint64(3), uint64(2), text(32), uint64(0), 4, 0, strings.Repeat("\x01", 100))
	f.Fuzz(func(t *testing.T, kind, height, round uint64, id string, prepared uint64, has, split int, rest string) {
		var l []api.Note
		for ; len(rest) >= 100; rest = rest[100:] {
			n := api.Note{Kind: uint64(rest[0]) % 6, Height: uint64(rest[1]), Round: uint64(rest[2]), Id: rest[3:35], Prepared: uint64(rest[99] % 3), Sig: cutSig(rest[34:99])}
			n.Sig.V, n.Sig.S[3] = n.Sig.V%3, n.Sig.S[3]>>1
			if n.Kind == api.MChange && n.Prepared == 0 {
				n.Id = ""
			}
			l = append(l, n)
		}
		m := api.Msg{Note: api.Note{Kind: kind, Height: height, Round: round, Id: id, Prepared: prepared, Sig: sig(height)}}
		if has&1 != 0 {
			m.Block = blockOf(0, 1, 3)
		}
		if has&2 != 0 {
			at := min(len(l), max(0, split))
			m.Changes, m.Prepares = l[:at], l[at:]
		}
		if has&4 != 0 {
			m.Seal = sig(round)
		}
		plainly(t, m)
		if s := plainRecord(m); len(s) <= 4000 && read(t, s) != msg.Whole(m) {
			t.Errorf("Read of %s", flat(m))
		}
	})
}

func BenchmarkBytes(b *testing.B) {
	m := propose(16, 10)
	for b.Loop() {
		msg.Bytes(m)
	}
}

func BenchmarkRead(b *testing.B) {
	s, _ := msg.Bytes(propose(16, 10))
	for b.Loop() {
		msg.Read(s)
	}
}
