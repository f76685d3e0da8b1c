package block_test

import (
	"math/rand/v2"
	"slices"
	"strings"
	"testing"
	"unsafe"

	"ecclesia/api"
	"ecclesia/block"
	"ecclesia/header"
	"ecclesia/keccak"
	"ecclesia/tx"
)

// TestSumTold is for P18.1: sums that are written out, the first one of them the
// chapter's.
func TestSumTold(t *testing.T) {
	var many []api.Tx
	for i := range uint64(40) {
		many = append(many, pays(1, i, i))
	}
	for _, c := range []struct {
		l    []api.Tx
		want string
	}{
		{nil, "C5D2460186F7233C927E7DB2DCC703C0E500B653CA82273B7BFAD8045D85A470"},
		{[]api.Tx{}, "C5D2460186F7233C927E7DB2DCC703C0E500B653CA82273B7BFAD8045D85A470"},
		{[]api.Tx{pays(1, 4, 0)}, "793874DF23E76B0F0A614208D69A59CBA3636D8D8C5E6B273B0D40B61CC9C6B5"},
		{[]api.Tx{pays(1, 4, 0), pays(2, 5, 0)}, "9CAEFCBFCB1B3C5D16DF27EB8C24D3A83C9EAAD54454179E3911598B3C003421"},
		{[]api.Tx{pays(2, 5, 0), pays(1, 4, 0)}, "38268EB04456C5F79F79E43CFA83D45534279D6FBB6B71111C6A08A79CB4C530"},
		{[]api.Tx{pays(1, 4, 0), pays(1, 4, 0)}, "6D4C9FCABF7EC6D79D82FA37B9E6892122699F28E3DC4DD02307CDA852624083"},
		{[]api.Tx{signed(1, wallet(2), 128, 0), signed(2, wallet(1), most, most), signed(3, of(0), 0, 1), signed(1, wallet(1), 1<<32, 255)}, "D30484D88F1ECCFEE176B80CBC567C39D9D1C10389E221192BDF3B40B1BA5863"},
		{many[:5], "01DD2F4FBFD10AFC05FCC6C9D343B81F5401619508E49C4E7F1729C00EF80D06"},
		{many, "3AB53F31CF6A2B96D1A41EDF7D75213A8481D53AA39911F2C2111CFA59D4101A"},
		{[]api.Tx{{To: of('t'), Amount: 7, Nonce: 9, Sig: api.Sig{R: api.U{5}, S: api.U{6}, V: 1}}}, "D3FC78B0163EA7EC66A128E92F38AAD148E6EC94C4513EC2E07115DC1BB09FDD"},
	} {
		got, e := block.Sum(c.l)
		same(t, "Sum", flatTxs(c.l), got, e, hexed(c.want), api.OK)
	}
}

// TestSum is for P18.1: lists of all sizes, each with a sum of its own, and such
// with a transfer somewhere that may not be.
func TestSum(t *testing.T) {
	sums := map[string]bool{}
	for _, many := range []int{0, 1, 2, 3, 4, 5, 16, 17, 100, 1000} {
		l := some(many)
		summed(t, l)
		got, _ := block.Sum(l)
		sums[got] = true
		if many > 1 {
			l[0], l[many-1] = l[many-1], l[0]
			summed(t, l)
			got, _ = block.Sum(l)
			sums[got] = true
		}
	}
	if len(sums) != 18 {
		t.Errorf("%d sums of 18 lists", len(sums))
	}
	for _, one := range wrong() {
		for _, many := range []int{0, 1, 3, 4, 7} {
			for at := range many + 1 {
				l := put(some(many), at, one)
				got, e := block.Sum(l)
				same(t, "Sum", flatTxs(l), got, e, "", api.ErrArg)
				summed(t, l)
			}
		}
	}
}

// TestBytesTold is for P18.2: bytes that are written out, as far as they begin, with
// the sum of them.
func TestBytesTold(t *testing.T) {
	h := api.Header{Parent: hash('p'), Height: 3, Root: hash('r'), Proposer: of('a'), Validators: []string{of('a'), of('b')}, Vote: of('c'), Add: true, Round: 2}
	g := api.Header{Parent: hash('p'), Height: 128, Root: hash('r'), Proposer: of('a'), Vanity: "\x05", Validators: []string{of('a')}, Vote: of('a'), Round: 1 << 32, Seals: []api.Sig{{R: api.U{7}, S: api.U{9}, V: 1}}}
	f := api.Header{Parent: hash('p'), Height: 1, Root: hash('r'), Proposer: wallet(1), Validators: []string{wallet(1)}}
	for _, c := range []struct {
		b           api.Block
		size        int
		begins, sum string
	}{
		{least(), 154, "F898B896F894A0000000000000000000000000000000000000000000000000000000000000000080", "E9DC6487CFA2C7D9858E58A435D98AC8FB5F47B603A9CB03C0B682338169EFDC"},
		{blockOf(h, pays(1, 4, 0)), 290, "F9011FB8BFF8BDA07070707070707070707070707070707070707070707070707070707070707070", "19FC76E7AA1E2D28EE159D822F5AAAF1F8E793CCEBC0995B5BBE9837327C74CC"},
		{blockOf(g, pays(1, 4, 0), pays(2, 5, 0)), 437, "F901B2B8F4F8F2A07070707070707070707070707070707070707070707070707070707070707070", "E5930767748ED4587AD345DE8B5FD36883DA5A4B80C485DC43D7423FABA3D8A1"},
		{largest(), 2032, "F907EDB90632F9062FA0FFFFFFFFFFFFFFFFFFFFFFFFFFFFFFFFFFFFFFFFFFFFFFFFFFFFFFFFFFFF", "B656FAB0BB44B54CF327FDE34AC46F7480CA792B3286C32F18784638E5BB6016"},
		{blockOf(f, signed(1, wallet(2), 128, 0), signed(2, wallet(1), most, most), signed(3, of(0), 0, 1), signed(1, wallet(1), 1<<32, 255)), 554,
			"F90227B896F894A07070707070707070707070707070707070707070707070707070707070707070", "4B1EE9CC347D773516165F781CD415847617C5289FA2FF077CCC28964C39959A"},
	} {
		s, e := block.Bytes(c.b)
		if len(s) != c.size || !strings.HasPrefix(s, hexed(c.begins)) || keccak.Sum(s) != hexed(c.sum) || e != api.OK {
			t.Errorf("Bytes of %s answers %X, %d", flat(c.b), s, e)
		}
		if !block.Right(c.b) {
			t.Errorf("%s may not be", flat(c.b))
		}
		back, e := block.Read(s)
		sameBlock(t, s, back, e, c.b, api.OK)
	}
}

// TestGood is for P18.2 and P18.3: blocks that may be, and the way back from their
// bytes, which no two of them share.
func TestGood(t *testing.T) {
	seen := map[string]bool{}
	for _, b := range goods() {
		if !block.Right(b) {
			t.Fatalf("%s may not be", flat(b))
		}
		plainly(t, b)
		s, _ := block.Bytes(b)
		back, e := block.Read(s)
		sameBlock(t, s, back, e, b, api.OK)
		read(t, s)
		seen[s] = true
	}
	if len(seen) != len(goods()) {
		t.Errorf("%d bytes of %d blocks", len(seen), len(goods()))
	}
}

// TestRecords is for P18.2: a block's bytes are its header's and its transfers', as
// their own packages write them.
func TestRecords(t *testing.T) {
	for _, b := range goods() {
		top, e := header.Bytes(b.Header)
		if e != api.OK {
			t.Fatal(e)
		}
		texts := []string{top}
		for _, x := range b.Txs {
			one, e := tx.Bytes(x)
			if e != api.OK {
				t.Fatal(e)
			}
			texts = append(texts, one)
		}
		got, e := block.Bytes(b)
		same(t, "Bytes", flat(b), got, e, plainTexts(texts), api.OK)
	}
}

// TestBad is for P18.2: blocks that may not be, by their header, their transfers,
// how many these are, or their sum; their records are none's.
func TestBad(t *testing.T) {
	for _, b := range bads() {
		if block.Right(b) {
			t.Fatalf("%.1000s may be", flat(b))
		}
		got, e := block.Bytes(b)
		same(t, "Bytes", flat(b), got, e, "", api.ErrArg)
		plainly(t, b)
		if !slices.ContainsFunc(b.Txs, func(one api.Tx) bool { return one.Sig.V < 0 || one.Sig.V > 255 }) {
			none(t, plainRecord(b))
		}
	}
}

// TestHeads is for P18.2: a block's other fields are its header's own, with the
// edges of its numbers.
func TestHeads(t *testing.T) {
	for _, n := range []uint64{0, 1, 127, 128, 255, 256, 1 << 32, 1 << 63, most} {
		h := head()
		h.Height = n
		plainly(t, blockOf(h, some(2)...))
		h.Round = n
		b := blockOf(h, some(3)...)
		plainly(t, b)
		s, _ := block.Bytes(b)
		back, e := block.Read(s)
		sameBlock(t, s, back, e, b, api.OK)
	}
}

// TestMany is for P18.2: at most four transfers, whatever their sum.
func TestMany(t *testing.T) {
	for many := range 33 {
		b := blockOf(head(), some(many)...)
		if block.Right(b) != (many <= 4) {
			t.Errorf("%d transfers: Right is not %t", many, many <= 4)
		}
		plainly(t, b)
		if read(t, plainRecord(b)) != (many <= 4) {
			t.Errorf("%d transfers: Read", many)
		}
	}
	b := blockOf(head(), some(5)...)
	b.Header.Txs = blockOf(head(), some(4)...).Header.Txs
	plainly(t, b)
	none(t, plainRecord(b))
}

// TestLong is for P18.1 and P18.2: lists that are far too long end soon.
func TestLong(t *testing.T) {
	long := make([]api.Tx, 1<<22)
	plainly(t, api.Block{Header: head(), Txs: long})
	got, e := block.Sum(long)
	same(t, "Sum", "many", got, e, "", api.ErrArg)
	b := blockOf(head())
	b.Header.Validators = make([]string, 1<<20)
	plainly(t, b)
	for _, size := range []int{1 << 20, 1 << 26} {
		for _, one := range []string{"\xC0", "\x80", "\xFB", "x"} {
			got, e := block.Read(strings.Repeat(one, size))
			sameBlock(t, "", got, e, api.Block{}, api.ErrForm)
		}
	}
}

// TestReadBits is for P18.2: bytes of which a bit is turned, or one is left out or
// put in, are those of another block, or of none.
func TestReadBits(t *testing.T) {
	are, missing := 0, 0
	for i, b := range goods() {
		s, _ := block.Bytes(b)
		if i%3 != 0 || len(s) > 700 {
			continue
		}
		for at := range len(s) {
			for bit := range 8 {
				made := []byte(s)
				made[at] ^= 1 << bit
				if read(t, string(made)) {
					are++
				} else {
					missing++
				}
			}
			none(t, s[:at])
			none(t, s[:at]+s[at+1:])
			none(t, s[:at]+"\x00"+s[at:])
			none(t, s[:at]+"\x01"+s[at:])
		}
		for _, behind := range []string{"\x00", "\x80", "\xC0", "x", s} {
			none(t, s+behind)
			none(t, behind+s)
		}
	}
	if are < 1000 || missing < 1000 {
		t.Errorf("%d are a block's, %d none's", are, missing)
	}
}

// TestReadParts is for P18.2: lists with a part too many or too few, or with two of
// them turned about, of which none has the sum that the header tells.
func TestReadParts(t *testing.T) {
	b := blockOf(head(), some(3)...)
	parts := plainParts(b)
	for at := range parts {
		none(t, plainTexts(slices.Delete(slices.Clone(parts), at, at+1)))
		for _, more := range append(parts, "", "\x00", "x", "\xC0", "\x80", plainHeader(head()), plainTx(some(5)[4])) {
			none(t, plainTexts(slices.Insert(slices.Clone(parts), at, more)))
			none(t, plainTexts(append(slices.Clone(parts), more)))
			changed := slices.Clone(parts)
			changed[at] = more
			if more != parts[at] {
				none(t, plainTexts(changed))
			}
		}
		for other := range at {
			turned := slices.Clone(parts)
			turned[at], turned[other] = turned[other], turned[at]
			none(t, plainTexts(turned))
		}
	}
	none(t, plainTexts(nil))
	none(t, plainTexts(parts[1:]))
	if !read(t, plainTexts(parts)) {
		t.Error("the parts as they are can't be read")
	}
}

// TestReadLists is for P18.2: parts that are lists, not bytes; transfers in a list
// of their own; parts without a list about them, or with two.
func TestReadLists(t *testing.T) {
	for many := range 5 {
		b := blockOf(head(), some(many)...)
		parts := plainParts(b)
		var texts []string
		for _, one := range parts {
			texts = append(texts, plainText(one))
		}
		none(t, plainList(parts...))
		none(t, plainList(texts[0], plainList(texts[1:]...)))
		none(t, plainList(append(slices.Clone(texts), "\xC0")...))
		none(t, plainList(append([]string{"\xC0"}, texts...)...))
		none(t, strings.Join(texts, ""))
		none(t, strings.Join(parts, ""))
		none(t, plainList(plainList(texts...)))
		none(t, plainText(plainList(texts...)))
		none(t, plainText(strings.Join(texts, "")))
		for at := range parts {
			for _, other := range []string{parts[at], plainList(texts[at]), plainText(texts[at]), "\xC0", "\x80", ""} {
				changed := slices.Clone(texts)
				changed[at] = other
				none(t, plainList(changed...))
			}
		}
		if read(t, parts[0]) || read(t, texts[0]) {
			t.Error("a header is read as a block")
		}
	}
}

// TestReadHeads is for P18.2: heads in other writings than the shortest one.
func TestReadHeads(t *testing.T) {
	b := blockOf(head(), some(1)...)
	s, _ := block.Bytes(b)
	first, second := plainHeader(b.Header), plainTx(b.Txs[0])
	inner := plainText(first) + plainText(second)
	size := []byte{byte(len(inner) >> 8), byte(len(inner))}
	if s != "\xF9"+string(size)+inner {
		t.Fatalf("%X", s)
	}
	none(t, "\xFA\x00"+string(size)+inner)
	none(t, "\xFF\x00\x00\x00\x00\x00\x00"+string(size)+inner)
	none(t, "\xB9"+string(size)+inner)
	none(t, "\xF8"+string(size[1:])+inner)
	longer := "\xB9\x00" + string([]byte{byte(len(second))}) + second
	none(t, plainList(plainText(first), longer))
	none(t, plainList(plainText(first)+"\xB8"+string([]byte{byte(len(second))})+second+"\x80"))
	// Within a part, too.
	none(t, plainTexts([]string{first, "\xF9\x00" + second[1:]}))
	none(t, plainTexts([]string{first[:1] + "\x00" + first[1:], second}))
}

// TestReadOther is for P18.2: bytes that are something else, too long or too deep;
// each of these is ErrForm too.
func TestReadOther(t *testing.T) {
	b := blockOf(head(), some(2)...)
	s, _ := block.Bytes(b)
	one, _ := tx.Bytes(some(1)[0])
	top, _ := header.Bytes(b.Header)
	for _, other := range []string{"", "\x00", "\x7f", "\x80", "\x81", "\xC0", "\xff", "\xF8", "\xF9", "\xBF", "\xC1\x80", "\xC1\xC0", text(20), text(150), text(500), one, top, s[3:]} {
		none(t, other)
	}
	for _, size := range []int{3996, 3997, 3998, 3999, 4000, 4001, 5000, 1 << 20} {
		none(t, text(size))
		none(t, s+strings.Repeat("\x00", size))
		none(t, strings.Repeat("\x80", size))
		none(t, plainList(strings.Repeat("\x80", size)))
		none(t, plainList(plainText(top)+strings.Repeat("\x80", size)))
	}
	deep := "\xC0"
	for range 20 {
		deep = plainList(deep)
		none(t, deep)
		none(t, plainList(plainText(top), deep))
		none(t, plainList(deep, plainText(one)))
	}
}

// TestBothWays is for P18.3: blocks and their bytes lead to one another, whatever
// is in them.
func TestBothWays(t *testing.T) {
	source := rand.New(rand.NewPCG(18, 2))
	bytes := func(size int) string {
		made := make([]byte, size)
		for i := range made {
			made[i] = byte(source.Uint32())
		}
		return string(made)
	}
	word := source.Uint64
	sig := func() api.Sig {
		return api.Sig{R: api.U{word(), word(), word(), word() >> 1}, S: api.U{word(), word(), word(), word() >> 2}, V: source.IntN(2)}
	}
	for range 500 {
		h := api.Header{Parent: bytes(32), Height: word() >> source.UintN(65), Root: bytes(32), Proposer: bytes(20), Vanity: bytes(source.IntN(9)), Round: word() >> source.UintN(65)}
		for range 1 + source.IntN(16) {
			h.Validators = append(h.Validators, bytes(20))
		}
		slices.Sort(h.Validators)
		if source.IntN(2) == 0 {
			h.Vote, h.Add = bytes(20), source.IntN(2) == 0
		}
		for range source.IntN(17) {
			h.Seals = append(h.Seals, sig())
		}
		var l []api.Tx
		for range source.IntN(5) {
			l = append(l, api.Tx{To: bytes(20), Amount: word() >> source.UintN(65), Nonce: word() >> source.UintN(65), Sig: sig()})
		}
		b := blockOf(h, l...)
		plainly(t, b)
		s, e := block.Bytes(b)
		if e != api.OK {
			t.Fatalf("%s has no bytes", flat(b))
		}
		back, e := block.Read(s)
		sameBlock(t, s, back, e, b, api.OK)
	}
}

// apart holds that two texts share no memory.
func apart(t *testing.T, call, one, other string) {
	t.Helper()
	start, begun := uintptr(unsafe.Pointer(unsafe.StringData(one))), uintptr(unsafe.Pointer(unsafe.StringData(other)))
	if start < begun+uintptr(len(other)) && begun < start+uintptr(len(one)) {
		t.Errorf("what %s answers shares memory with what it was handed", call)
	}
}

// TestAlone is for P18.2: an answer is new memory, and hangs on no call that was
// ahead of it.
func TestAlone(t *testing.T) {
	b := blockOf(head(), some(3)...)
	s, _ := block.Bytes(b)
	back, _ := block.Read(s)
	h := back.Header
	texts := append([]string{h.Parent, h.Root, h.Txs, h.Proposer, h.Vanity, h.Vote}, h.Validators...)
	for _, one := range back.Txs {
		texts = append(texts, one.To)
	}
	for _, one := range texts {
		apart(t, "Read", one, s)
	}
	again, _ := block.Read(s)
	again.Header.Validators[0], again.Header.Seals[0], again.Txs[0] = "", api.Sig{}, api.Tx{}
	sameBlock(t, s, back, api.OK, b, api.OK)
	block.Read("x")
	block.Bytes(api.Block{})
	block.Sum(wrong())
	plainly(t, b)
	// Lists with room behind them: nothing is laid there.
	room := append(slices.Clone(b.Txs), some(5)[4])
	b.Txs = room[:3]
	plainly(t, b)
	if room[3] != some(5)[4] {
		t.Error("a call writes behind a list")
	}
}

func FuzzRead(f *testing.F) {
	for _, b := range append(goods(), bads()[:40]...) {
		f.Add(plainRecord(b))
	}
	f.Fuzz(func(t *testing.T, s string) { read(t, s) })
}

// FuzzBlock is for P18.1 and P18.2: transfers one behind the other, of 85 bytes each,
// with the sum that they have, or with another one.
func FuzzBlock(f *testing.F) {
	f.Add(hash('p'), hash('r'), of('a'), "v", of('a'), of('v'), true, uint64(3), uint64(2), strings.Repeat("abcde", 17*3), "")
	f.Add(hash('p'), hash('r'), of('a'), "v", of('a'), "", false, uint64(3), uint64(2), strings.Repeat("\x01", 85*5), hash('s'))
	f.Fuzz(func(t *testing.T, parent, root, proposer, vanity, validator, vote string, add bool, height, round uint64, txs, sum string) {
		h := api.Header{Parent: parent, Height: height, Root: root, Proposer: proposer, Vanity: vanity, Validators: []string{validator}, Vote: vote, Add: add, Round: round}
		var l []api.Tx
		for ; len(txs) >= 85; txs = txs[85:] {
			one := api.Tx{To: txs[:20], Amount: uint64(txs[20]), Nonce: height + uint64(txs[21]), Sig: api.Sig{V: int(txs[84]) % 3}}
			for i := range 4 {
				for _, b := range []byte(txs[21+8*i : 29+8*i]) {
					one.Sig.R[i] = one.Sig.R[i]<<8 + uint64(b)
				}
				for _, b := range []byte(txs[53+7*i : 60+7*i]) {
					one.Sig.S[i] = one.Sig.S[i]<<8 + uint64(b)
				}
			}
			l = append(l, one)
		}
		b := blockOf(h, l...)
		if sum != "" {
			b.Header.Txs = sum
		}
		plainly(t, b)
		read(t, plainRecord(b))
	})
}

func BenchmarkSum(b *testing.B) {
	l := some(4)
	for b.Loop() {
		block.Sum(l)
	}
}

func BenchmarkRead(b *testing.B) {
	s, _ := block.Bytes(largest())
	for b.Loop() {
		block.Read(s)
	}
}
