package header_test

import (
	"fmt"
	"math"
	"math/big"
	"math/rand/v2"
	"slices"
	"strings"
	"testing"
	"unsafe"

	"ecclesia/api"
	"ecclesia/header"
	"ecclesia/keccak"
	"ecclesia/u256"
)

const most = math.MaxUint64

// text is bytes of all kinds, the same ones at each run.
func text(size int) string {
	made := make([]byte, size)
	rand.NewChaCha8([32]byte{17}).Read(made)
	return string(made)
}

// addr is an address of one byte.
func addr(b byte) string { return strings.Repeat(string([]byte{b}), 20) }

// set are so many validators, rising up to the last bytes.
func set(many int) []string {
	var made []string
	for i := range many {
		made = append(made, string([]byte{byte(i >> 16), byte(i >> 8), byte(i)})+text(17))
	}
	return made
}

// numbers are those of all lengths in a record, and about them.
func numbers() []uint64 {
	list := []uint64{0, 1, 2, 5, 126, 127, 128, 129, 255, 256, 1000, most, most - 1, 1 << 63, 1<<63 - 1}
	for bits := 16; bits < 64; bits += 8 {
		list = append(list, 1<<bits-1, 1<<bits, 1<<bits+1)
	}
	return list
}

// less is a number of the library's, less so many.
func less(a *big.Int, by int64) api.U { return narrow(new(big.Int).Sub(a, big.NewInt(by))) }

// seal is some signature that may be.
func seal(n uint64) api.Sig {
	return api.Sig{R: api.U{n, 3, 2, 1}, S: api.U{8, 7, 6, 5}, V: int(n & 1)}
}

// seals are so many.
func seals(many int) []api.Sig {
	var made []api.Sig
	for i := range many {
		made = append(made, seal(uint64(i)))
	}
	return made
}

// noSeals are signatures that may not be: none, and such with one thing beyond
// its edges.
func noSeals() []api.Sig {
	list := []api.Sig{{}, {V: 1}, {R: api.U{1}}, {S: api.U{1}}, {R: api.U{most, most, most, most}, S: api.U{1}}}
	for _, beyond := range []api.U{{}, narrow(order), less(order, -1), {most, most, most, most}} {
		list = append(list, api.Sig{R: beyond, S: api.U{1}}, api.Sig{R: api.U{1}, S: beyond})
	}
	for _, high := range []api.U{less(half, -1), less(order, 1), {0, 0, 0, 1 << 63}} {
		list = append(list, api.Sig{R: api.U{1}, S: high})
	}
	for _, v := range []int{-1, 2, 3, 27, 255, 256, 257, 1 << 32, 1<<32 + 1, math.MinInt, math.MaxInt} {
		list = append(list, api.Sig{R: api.U{1}, S: api.U{1}, V: v})
	}
	return list
}

// base is a header that may be, with something in all of it.
func base() api.Header {
	return api.Header{Parent: text(32), Height: 300, Root: text(33)[1:], Txs: text(34)[2:], Proposer: text(23)[3:], Vanity: "vain", Validators: set(4), Vote: text(24)[4:], Add: true, Round: 2, Seals: seals(3)}
}

// with is that header, changed.
func with(change func(h *api.Header)) api.Header {
	h := base()
	change(&h)
	return h
}

// goods are headers that may be, no two of them the same, with the edges of all
// that is in them.
func goods() []api.Header {
	list := []api.Header{base()}
	add := func(change func(h *api.Header)) { list = append(list, with(change)) }
	for _, n := range numbers() {
		if n != base().Height {
			add(func(h *api.Header) { h.Height = n })
		}
		if n != base().Round {
			add(func(h *api.Header) { h.Round = n })
		}
	}
	for _, one := range []string{"\x00", "\x7f", "\x80", "\xff", "\xC3"} {
		hash := strings.Repeat(one, 32)
		add(func(h *api.Header) { h.Parent = hash })
		add(func(h *api.Header) { h.Root = hash })
		add(func(h *api.Header) { h.Txs = hash })
		add(func(h *api.Header) { h.Proposer = hash[:20] })
		add(func(h *api.Header) { h.Vote = hash[:20] })
		add(func(h *api.Header) { h.Vote, h.Add = hash[:20], false })
		for size := 1; size <= 8; size++ {
			add(func(h *api.Header) { h.Vanity = hash[:size] })
		}
		add(func(h *api.Header) { h.Validators = []string{hash[:20]} })
	}
	add(func(h *api.Header) { h.Vanity = "" })
	add(func(h *api.Header) { h.Add = false })
	add(func(h *api.Header) { h.Vote, h.Add = "", false })
	add(func(h *api.Header) { h.Vote = h.Validators[0] })
	add(func(h *api.Header) { h.Proposer = h.Validators[1] })
	for many := 1; many <= 16; many++ {
		if many != 4 {
			add(func(h *api.Header) { h.Validators = set(many) })
		}
		if many != 3 {
			add(func(h *api.Header) { h.Seals = seals(many) })
		}
	}
	add(func(h *api.Header) { h.Seals = nil })
	add(func(h *api.Header) { h.Validators, h.Seals = set(16), seals(16) })
	add(func(h *api.Header) { h.Validators = []string{addr(0), addr(0x7f), addr(0x80), addr(0xff)} })
	add(func(h *api.Header) { h.Validators = []string{addr(7)[:19] + "\x00", addr(7)[:19] + "\x01"} })
	add(func(h *api.Header) { h.Validators = []string{addr(7)[:19] + "\x7f", addr(7)[:19] + "\x80"} })
	for _, r := range []api.U{{1}, {0, 0, 0, 1}, narrow(half), less(order, 1)} {
		for _, s := range []api.U{{1}, {0, 1}, less(half, 1), narrow(half)} {
			add(func(h *api.Header) { h.Seals = []api.Sig{{R: r, S: s}} })
			add(func(h *api.Header) { h.Seals = []api.Sig{{R: r, S: s, V: 1}, {R: r, S: s, V: 1}, {R: r, S: s}} })
		}
	}
	add(func(h *api.Header) { *h = least() })
	return list
}

// least is the header that may be with the fewest bytes.
func least() api.Header {
	return api.Header{Parent: strings.Repeat("\x00", 32), Root: strings.Repeat("\x00", 32), Txs: strings.Repeat("\x00", 32), Proposer: addr(0), Validators: []string{addr(0)}}
}

// places are the texts of a header, each with the sizes that it may have.
func places() []struct {
	name        string
	least, most int
	put         func(h *api.Header, s string)
} {
	return []struct {
		name        string
		least, most int
		put         func(h *api.Header, s string)
	}{
		{"Parent", 32, 32, func(h *api.Header, s string) { h.Parent = s }},
		{"Root", 32, 32, func(h *api.Header, s string) { h.Root = s }},
		{"Txs", 32, 32, func(h *api.Header, s string) { h.Txs = s }},
		{"Proposer", 20, 20, func(h *api.Header, s string) { h.Proposer = s }},
		{"Vanity", 0, 8, func(h *api.Header, s string) { h.Vanity = s }},
		{"Vote", 20, 20, func(h *api.Header, s string) { h.Vote = s }},
		{"a validator", 20, 20, func(h *api.Header, s string) { h.Validators = []string{s} }},
		{"a first validator", 20, 20, func(h *api.Header, s string) { h.Validators = []string{s, addr(0xff)} }},
		{"a last validator", 20, 20, func(h *api.Header, s string) { h.Validators = []string{addr(0), s} }},
	}
}

// sizes are those of texts: all short ones, and some that are too long to be read.
func sizes() []int {
	var list []int
	for size := range 100 {
		list = append(list, size)
	}
	return append(list, 256+20, 256+32, 4000, 4001, 65536+20, 65536+32)
}

// bads are headers that may not be.
func bads() []api.Header {
	list := []api.Header{{}, {Height: 1, Round: 1}}
	add := func(change func(h *api.Header)) { list = append(list, with(change)) }
	for _, place := range places() {
		for _, size := range sizes() {
			if size < place.least || size > place.most {
				add(func(h *api.Header) { place.put(h, text(size)) })
			}
		}
		add(func(h *api.Header) { place.put(h, strings.Repeat("\xC3\xA4", 20)) })
		add(func(h *api.Header) { place.put(h, strings.Repeat("\xC3\xA4", 32)) })
	}
	for _, many := range []int{17, 18, 32, 40, 41, 100, 1000, 1 << 16} {
		add(func(h *api.Header) { h.Validators = set(many) })
		add(func(h *api.Header) { h.Seals = seals(many) })
	}
	for _, wrong := range [][]string{nil, {}, {addr(2), addr(1)}, {addr(1), addr(1)}, {addr(1), addr(3), addr(2)}, {addr(1), addr(2), addr(2)}, {addr(1), addr(2), addr(1)},
		{addr(0x80), addr(0x7f)}, {addr(7)[:19] + "\x01", addr(7)[:19] + "\x00"}, {addr(1), addr(2)[:19], addr(3)}, {addr(1), addr(2) + "\x00", addr(3)}, {addr(1), addr(1) + "\x00"}, {"", addr(1)}} {
		add(func(h *api.Header) { h.Validators = wrong })
	}
	for at := range 15 {
		add(func(h *api.Header) {
			h.Validators = set(16)
			h.Validators[at], h.Validators[at+1] = h.Validators[at+1], h.Validators[at]
		})
		add(func(h *api.Header) {
			h.Validators = set(16)
			h.Validators[at] = h.Validators[at+1]
		})
	}
	add(func(h *api.Header) { h.Vote = "" })
	add(func(h *api.Header) { *h = least(); h.Add = true })
	for _, wrong := range noSeals() {
		add(func(h *api.Header) { h.Seals = []api.Sig{wrong} })
		add(func(h *api.Header) { h.Seals = []api.Sig{seal(1), wrong} })
		add(func(h *api.Header) { h.Seals = append(seals(15), wrong) })
	}
	for at := range 16 {
		add(func(h *api.Header) { h.Seals = seals(16); h.Seals[at] = api.Sig{} })
	}
	return list
}

// copied is a header with lists of its own.
func copied(h api.Header) api.Header {
	h.Validators, h.Seals = slices.Clone(h.Validators), slices.Clone(h.Seals)
	return h
}

// alike says if two headers are the same.
func alike(a, b api.Header) bool {
	texts := a.Parent == b.Parent && a.Root == b.Root && a.Txs == b.Txs && a.Proposer == b.Proposer && a.Vanity == b.Vanity && a.Vote == b.Vote
	numbers := a.Height == b.Height && a.Round == b.Round && a.Add == b.Add
	return texts && numbers && slices.Equal(a.Validators, b.Validators) && slices.Equal(a.Seals, b.Seals)
}

// flat is a header as a text; lists that are nil are as such of none.
func flat(h api.Header) string {
	return fmt.Sprintf("%q %d %q %q %q %q %q %q %t %d %x", h.Parent, h.Height, h.Root, h.Txs, h.Proposer, h.Vanity, h.Validators, h.Vote, h.Add, h.Round, h.Seals)
}

// same holds bytes that a call answers against what is wanted.
func same(t *testing.T, call string, h api.Header, got string, e api.Errno, want string, errno api.Errno) {
	t.Helper()
	if got != want || e != errno {
		t.Fatalf("%s of %.1000s answers %X, %d, not %X, %d", call, flat(h), got, e, want, errno)
	}
}

// sameHeader does so for a header.
func sameHeader(t *testing.T, s string, got api.Header, e api.Errno, want api.Header, errno api.Errno) {
	t.Helper()
	if !alike(got, want) || e != errno {
		t.Fatalf("Read of %d bytes %.200X answers %s, %d, not %s, %d", len(s), s, flat(got), e, flat(want), errno)
	}
}

// plainly holds all that is told of a header against what the chapter says, and
// that it stays as it was.
func plainly(t *testing.T, h api.Header) {
	t.Helper()
	was := copied(h)
	if want := plainRight(h); header.Right(h) != want {
		t.Fatalf("Right of %.1000s is not %t", flat(h), want)
	}
	for _, c := range []struct {
		call        string
		told, wants func(api.Header) (string, api.Errno)
	}{{"Bytes", header.Bytes, plainBytes}, {"Id", header.Id, plainId}, {"Seal", header.Seal, plainSeal}, {"Turn", header.Turn, plainTurn}} {
		got, e := c.told(h)
		want, errno := c.wants(h)
		same(t, c.call, h, got, e, want, errno)
	}
	if !alike(h, was) {
		t.Fatalf("%.1000s has become %.1000s", flat(was), flat(h))
	}
}

// read holds Read against what the chapter says, and answers if there is one.
func read(t *testing.T, s string) bool {
	t.Helper()
	got, e := header.Read(s)
	want, errno := plainRead(s)
	sameHeader(t, s, got, e, want, errno)
	if e != api.OK {
		return false
	}
	back, e := header.Bytes(got)
	same(t, "Bytes", got, back, e, s, api.OK)
	return true
}

// none holds that bytes are no header's.
func none(t *testing.T, s string) {
	t.Helper()
	got, e := header.Read(s)
	sameHeader(t, s, got, e, api.Header{}, api.ErrForm)
	if read(t, s) {
		t.Fatalf("%X are a header's", s)
	}
}

// TestTold is for P17.1: answers that are written out.
func TestTold(t *testing.T) {
	var many []string
	var large []api.Sig
	for i := range 16 {
		many = append(many, addr(byte(16*i)))
		large = append(large, api.Sig{R: api.U{uint64(i) + 1}, S: less(half, int64(i)), V: i % 2})
	}
	p, r, txs := strings.Repeat("p", 32), strings.Repeat("r", 32), strings.Repeat("t", 32)
	const rising = "000102030405060708090A0B0C0D0E0F101112131415161718191A1B1C1D1E1F"
	for _, c := range []struct {
		h                           api.Header
		size                        int
		begins, sum, id, seal, turn string
	}{
		{api.Header{Parent: p, Height: 3, Root: r, Txs: txs, Proposer: addr('a'), Validators: []string{addr('a'), addr('b')}, Vote: addr('c'), Add: true, Round: 2},
			191, "F8BDA0707070707070707070707070707070707070707070707070707070707070707003A0727272",
			"7BC2DC36B94FBE5508FF6FC48027D7A05200324303405F3B05F90FBE13724F54",
			"CC728B5B4356084087300ADF54472DD02C7D87CF9965E5B11848AC05AF244E60",
			"7BC2DC36B94FBE5508FF6FC48027D7A05200324303405F3B05F90FBE13724F54",
			"ECEBA716A88E340FE570BA65585DF4061436982DC0914351FB321C1AB7DBAFA3"},
		{least(), 150, "F894A0000000000000000000000000000000000000000000000000000000000000000080A0000000",
			"D87C9EF0E112754F3C7969D7E3707F33388835040B70CCD09E04A3296B5D6C6E",
			"D87C9EF0E112754F3C7969D7E3707F33388835040B70CCD09E04A3296B5D6C6E",
			"D87C9EF0E112754F3C7969D7E3707F33388835040B70CCD09E04A3296B5D6C6E",
			"2DC9DE5F93176219F3108F788F8B98A48EF86FD51A9EF2A4792F9B302B8BE3A4"},
		{api.Header{Parent: strings.Repeat("\xff", 32), Height: most, Root: r, Txs: hexed(rising), Proposer: hexed(rising[:40]), Vanity: "ecclesia", Validators: many, Vote: addr(0xff), Round: most, Seals: large},
			1586, "F9062FA0FFFFFFFFFFFFFFFFFFFFFFFFFFFFFFFFFFFFFFFFFFFFFFFFFFFFFFFFFFFFFFFF88FFFFFF",
			"2AF126A3A6F3273C3322652866CA90DD8CBA4AB6264471AF2F39990419D82B7E",
			"82EB49C9764232FF4EAF1E698A15C4011C825083E938F8C5835D1832E44FAD6E",
			"23D774E11D1535856DA2D28EEC41CE3EFD938A4E0377559647F209FC4C3EA1B3",
			"10840C08EA4FDA36FE716E590168653F862C301EA3F63255C97A13BF5EDB438F"},
		{api.Header{Parent: p, Height: 128, Root: r, Txs: txs, Proposer: addr('z'), Vanity: "\x05", Validators: []string{addr('a')}, Vote: addr('a'), Add: true, Round: 1 << 32, Seals: []api.Sig{{R: api.U{7}, S: api.U{9}, V: 1}}},
			244, "F8F2A070707070707070707070707070707070707070707070707070707070707070708180A07272",
			"A0E13427FA9C16DDAE1997F917735E0757002CDFD70A4EEE8D75366C3015DF36",
			"69D317B1DD96165404379A97A5E0CC41CBA6CB2595099870B7DE9FE420EF4FDC",
			"8ECAECDE7403C36A2D1188B99BA8A83F10118FE809CFF938397DE1EE679B4B31",
			"009749C6E45AEAD6F6BB8E59EF739DFA85A2254139CB0785CE040B72BDC1B1DD"},
	} {
		s, e := header.Bytes(c.h)
		if len(s) != c.size || !strings.HasPrefix(s, hexed(c.begins)) || keccak.Sum(s) != hexed(c.sum) || e != api.OK {
			t.Errorf("Bytes of %s answers %X, %d", flat(c.h), s, e)
		}
		back, e := header.Read(s)
		sameHeader(t, s, back, e, c.h, api.OK)
		got, e := header.Id(c.h)
		same(t, "Id", c.h, got, e, hexed(c.id), api.OK)
		got, e = header.Seal(c.h)
		same(t, "Seal", c.h, got, e, hexed(c.seal), api.OK)
		got, e = header.Turn(c.h)
		same(t, "Turn", c.h, got, e, hexed(c.turn), api.OK)
		if !header.Right(c.h) {
			t.Errorf("%s may not be", flat(c.h))
		}
	}
}

// TestExample is for P17.1: the chapter's example.
func TestExample(t *testing.T) {
	for _, told := range []func(api.Header) (string, api.Errno){header.Bytes, header.Id, header.Seal, header.Turn} {
		got, e := told(api.Header{})
		same(t, "a call", api.Header{}, got, e, "", api.ErrArg)
	}
}

// TestGood is for P17.1 and P17.2: headers that may be, with the edges of all in
// them, and the way back from their bytes.
func TestGood(t *testing.T) {
	for _, h := range goods() {
		if !header.Right(h) {
			t.Fatalf("%s may not be", flat(h))
		}
		plainly(t, h)
		s, _ := header.Bytes(h)
		back, e := header.Read(s)
		sameHeader(t, s, back, e, h, api.OK)
		read(t, s)
	}
}

// TestBad is for P17.1: headers that may not be, also by their seals, which the
// sums leave out; their records are none's.
func TestBad(t *testing.T) {
	for _, h := range bads() {
		if header.Right(h) {
			t.Fatalf("%.1000s may be", flat(h))
		}
		for _, told := range []func(api.Header) (string, api.Errno){header.Bytes, header.Id, header.Seal, header.Turn} {
			got, e := told(h)
			same(t, "a call", h, got, e, "", api.ErrArg)
		}
		plainly(t, h)
		if !slices.ContainsFunc(h.Seals, func(one api.Sig) bool { return one.V < 0 || one.V > 255 }) {
			none(t, plainRecord(h))
		}
	}
}

// TestSizes is for P17.1: texts of all sizes, in each place.
func TestSizes(t *testing.T) {
	for _, place := range places() {
		for _, size := range sizes() {
			h := with(func(h *api.Header) { place.put(h, text(size)) })
			if want := place.least <= size && size <= place.most; header.Right(h) != want {
				t.Errorf("%s of %d bytes: Right is not %t", place.name, size, want)
			}
			if read(t, plainRecord(h)) != header.Right(h) {
				t.Errorf("%s of %d bytes: Read", place.name, size)
			}
		}
	}
}

// TestLong is for P17.1: lists that are far too long end soon.
func TestLong(t *testing.T) {
	plainly(t, with(func(h *api.Header) { h.Validators = make([]string, 1<<22) }))
	plainly(t, with(func(h *api.Header) { h.Seals = make([]api.Sig, 1<<20) }))
	plainly(t, with(func(h *api.Header) { h.Vanity = strings.Repeat("v", 1<<26) }))
	for _, size := range []int{1 << 20, 1 << 26} {
		got, e := header.Read(strings.Repeat("\xC0", size))
		sameHeader(t, "", got, e, api.Header{}, api.ErrForm)
	}
}

// TestHangs is for P17.2: what a header is known by hangs on all but its Round and
// its Seals; its sum for seals and that for a turn on all but its Seals; its bytes
// on all.
func TestHangs(t *testing.T) {
	type seen map[string]bool
	var got, want [4]seen
	for i := range got {
		got[i], want[i] = seen{}, seen{}
	}
	for _, h := range goods() {
		for i, told := range []func(api.Header) (string, api.Errno){header.Bytes, header.Id, header.Seal, header.Turn} {
			s, _ := told(h)
			got[i][s] = true
		}
		want[0][flat(h)] = true
		h.Seals = nil
		want[2][flat(h)] = true
		want[3][flat(h)] = true
		h.Round = 0
		want[1][flat(h)] = true
	}
	for i := range got {
		if len(got[i]) != len(want[i]) || len(got[i]) < 100 {
			t.Errorf("call %d answers %d, not %d", i, len(got[i]), len(want[i]))
		}
	}
	if len(want[0]) != len(goods()) || len(want[1]) >= len(want[2]) || len(want[2]) >= len(want[0]) {
		t.Errorf("headers: %d, %d, %d", len(want[0]), len(want[1]), len(want[2]))
	}
}

// TestRounds is for P17.2: sums of headers of which Round or Seals alone are
// others.
func TestRounds(t *testing.T) {
	h := base()
	id, _ := header.Id(h)
	sum, _ := header.Seal(h)
	turn, _ := header.Turn(h)
	for many := range 17 {
		h.Seals = seals(many)
		got, e := header.Id(h)
		same(t, "Id", h, got, e, id, api.OK)
		got, e = header.Seal(h)
		same(t, "Seal", h, got, e, sum, api.OK)
		got, e = header.Turn(h)
		same(t, "Turn", h, got, e, turn, api.OK)
	}
	for _, n := range numbers() {
		h.Round = n
		got, e := header.Id(h)
		same(t, "Id", h, got, e, id, api.OK)
		other, _ := header.Seal(h)
		again, _ := header.Turn(h)
		if (other == sum) != (n == 2) || (again == turn) != (n == 2) {
			t.Errorf("Round %d: Seal %X, Turn %X", n, other, again)
		}
		if (other == id) != (n == 0) {
			t.Errorf("Round %d: Seal %X, Id %X", n, other, id)
		}
	}
}

// TestReadBits is for P17.1: bytes of which a bit is turned, or one is left out or
// put in, are those of another header, or of none.
func TestReadBits(t *testing.T) {
	some, missing := 0, 0
	for i, h := range goods() {
		s, _ := header.Bytes(h)
		if i%15 != 0 || len(s) > 700 {
			continue
		}
		for at := range len(s) {
			for bit := range 8 {
				made := []byte(s)
				made[at] ^= 1 << bit
				if read(t, string(made)) {
					some++
				} else {
					missing++
				}
			}
			none(t, s[:at])
			none(t, s[:at]+s[at+1:])
			none(t, s[:at]+"\x00"+s[at:])
			none(t, s[:at]+"\x01"+s[at:])
		}
		for _, behind := range []string{"\x00", "\x80", "\xC0", "x", s} {
			none(t, s+behind)
			none(t, behind+s)
		}
	}
	if some < 10000 || missing < 1000 {
		t.Errorf("%d are a header's, %d none's", some, missing)
	}
}

// changed is the record of a header with another item in one place.
func changed(h api.Header, at int, item string) string {
	parts := plainParts(h)
	parts[at] = item
	return plainList(parts...)
}

// TestReadAdd is for P17.1: Add is 0 or 1, and 0 where there is no vote.
func TestReadAdd(t *testing.T) {
	for _, n := range numbers() {
		if read(t, changed(base(), 8, plainNumber(n))) != (n < 2) {
			t.Errorf("Add %d, of a vote", n)
		}
		if read(t, changed(least(), 8, plainNumber(n))) != (n == 0) {
			t.Errorf("Add %d, of none", n)
		}
	}
	for _, one := range []string{"\x00", "\x81\x01", "\x81\x00", "\x82\x00\x01", "\xC0", "\xC1\x01", ""} {
		none(t, changed(base(), 8, one))
		none(t, changed(least(), 8, one))
	}
}

// TestReadNumber is for P17.1: numbers in other writings than their shortest one,
// of more than 8 bytes, or that are none.
func TestReadNumber(t *testing.T) {
	wrong := []string{"\x00", "\x81\x00", "\x81\x01", "\x81\x7f", "\x82\x00\x80", "\x82\x00\x01", "\x83\x00\x00\x00", "\xB8\x01\x80", "\xB8\x02\x01\x00",
		"\x89\x01" + strings.Repeat("\x00", 8), "\x89\x00" + strings.Repeat("\xff", 8), "\x88\x00" + strings.Repeat("\xff", 7),
		"\x94" + strings.Repeat("\x01", 20), "\xC0", "\xC1\x05", "\xC1\x80", "", "\x05\x05", "\x05\x80\x80"}
	for _, at := range []int{1, 9} {
		for _, n := range numbers() {
			if !read(t, changed(base(), at, plainNumber(n))) {
				t.Fatalf("%d can't be read", n)
			}
		}
		for _, one := range wrong {
			none(t, changed(base(), at, one))
			none(t, changed(least(), at, one))
		}
	}
}

// TestReadLists is for P17.1: validators and seals that are lists of something
// else, or bytes, and texts that are lists.
func TestReadLists(t *testing.T) {
	h := base()
	one, sig := plainText(addr(1)), plainText(plainSig(seal(1)))
	for _, wrong := range []string{"\x80", "\x01", one, sig, plainList(plainList()), plainList(plainList(one)), plainList(one, plainList()), plainList(sig, one), plainList(one, sig), plainList("\x05"), plainList("\x80"), ""} {
		none(t, changed(h, 6, wrong))
		none(t, changed(h, 10, wrong))
	}
	for _, at := range []int{0, 2, 3, 4, 5, 7} {
		for _, wrong := range []string{"\xC0", plainList(plainParts(h)[at]), plainList(one), plainList("\x05"), ""} {
			none(t, changed(h, at, wrong))
		}
	}
	none(t, changed(h, 6, plainList(sig)))
	none(t, changed(h, 10, plainList(one)))
	if !read(t, changed(h, 6, plainList(one))) || !read(t, changed(h, 10, plainList(sig))) || !read(t, changed(h, 10, "\xC0")) {
		t.Error("lists of one can't be read")
	}
	for size := range 100 {
		if read(t, changed(h, 10, plainList(plainText((plainSig(seal(1)) + text(40))[:size])))) != (size == 65) {
			t.Errorf("a seal of %d bytes", size)
		}
	}
	for v := range 256 {
		if read(t, changed(h, 10, plainList(plainText(plainSig(seal(1))[:64]+string([]byte{byte(v)}))))) != (v < 2) {
			t.Errorf("a seal of V %d", v)
		}
	}
}

// TestReadPlaces is for P17.1: records with an item too many or too few, or with
// two of them turned about.
func TestReadPlaces(t *testing.T) {
	parts := plainParts(base())
	for at := range parts {
		none(t, plainList(slices.Delete(slices.Clone(parts), at, at+1)...))
		for _, more := range []string{"\x80", "\xC0", "\x01", parts[at]} {
			none(t, plainList(slices.Insert(slices.Clone(parts), at, more)...))
			none(t, plainList(append(slices.Clone(parts), more)...))
		}
		for other := range at {
			turned := slices.Clone(parts)
			turned[at], turned[other] = turned[other], turned[at]
			read(t, plainList(turned...))
		}
	}
}

// TestReadOther is for P17.1: bytes that are something else, too long or too deep;
// each of these is ErrForm too.
func TestReadOther(t *testing.T) {
	s, _ := header.Bytes(base())
	none(t, s[3:])
	none(t, "\xB9"+s[1:])
	none(t, "\xFA\x00"+s[1:])
	none(t, "\x84turn"+s)
	for _, other := range []string{"", "\x00", "\x80", "\xC0", "\xff", "\xF8", "\xF9", "\xBF", text(20), text(150), text(500), plainList("\x84turn", "\xA0"+text(32), "\x80")} {
		none(t, other)
	}
	for _, size := range []int{3999, 4000, 4001, 5000, 1 << 20} {
		none(t, text(size))
		none(t, s+strings.Repeat("\x00", size))
		none(t, strings.Repeat("\x80", size))
	}
	deep := "\xC0"
	for range 20 {
		deep = plainList(deep)
		none(t, deep)
		none(t, changed(base(), 6, deep))
		none(t, changed(base(), 10, deep))
	}
	none(t, "\xF9\x0F\x9D"+strings.Repeat("\x80", 3997))
	none(t, "\xF9\x0F\x9E"+strings.Repeat("\x80", 3998))
}

// TestBothWays is for P17.2: headers and their bytes lead to one another, whatever
// is in them.
func TestBothWays(t *testing.T) {
	source := rand.New(rand.NewPCG(17, 2))
	some := func(size int) string {
		made := make([]byte, size)
		for i := range made {
			made[i] = byte(source.Uint32())
		}
		return string(made)
	}
	for range 2000 {
		h := api.Header{Parent: some(32), Height: source.Uint64() >> source.UintN(65), Root: some(32), Txs: some(32), Proposer: some(20), Vanity: some(source.IntN(9)), Round: source.Uint64() >> source.UintN(65)}
		for range 1 + source.IntN(16) {
			h.Validators = append(h.Validators, some(20))
		}
		slices.Sort(h.Validators)
		if source.IntN(2) == 0 {
			h.Vote, h.Add = some(20), source.IntN(2) == 0
		}
		for range source.IntN(17) {
			word := source.Uint64
			h.Seals = append(h.Seals, api.Sig{R: api.U{word(), word(), word(), word() >> 1}, S: api.U{word(), word(), word(), word() >> 2}, V: source.IntN(2)})
		}
		plainly(t, h)
		s, e := header.Bytes(h)
		if e != api.OK {
			t.Fatalf("%s has no bytes", flat(h))
		}
		back, e := header.Read(s)
		sameHeader(t, s, back, e, h, api.OK)
	}
}

// apart holds that two texts share no memory.
func apart(t *testing.T, call, one, other string) {
	t.Helper()
	start, begun := uintptr(unsafe.Pointer(unsafe.StringData(one))), uintptr(unsafe.Pointer(unsafe.StringData(other)))
	if start < begun+uintptr(len(other)) && begun < start+uintptr(len(one)) {
		t.Errorf("what %s answers shares memory with what it was handed", call)
	}
}

// TestAlone is for P17.1: an answer is new memory, and hangs on no call that was
// ahead of it.
func TestAlone(t *testing.T) {
	h := base()
	s, _ := header.Bytes(h)
	apart(t, "Bytes", s, h.Parent)
	back, _ := header.Read(s)
	texts := append([]string{back.Parent, back.Root, back.Txs, back.Proposer, back.Vanity, back.Vote}, back.Validators...)
	for _, one := range texts {
		apart(t, "Read", one, s)
	}
	again, _ := header.Read(s)
	again.Validators[0], again.Seals[0] = "", api.Sig{}
	sameHeader(t, s, back, api.OK, h, api.OK)
	header.Read("x")
	header.Bytes(api.Header{})
	plainly(t, h)
	// Lists with room behind them: nothing is laid there.
	room := append(slices.Clone(h.Seals), seal(9))
	h.Seals = room[:3]
	plainly(t, h)
	if room[3] != seal(9) {
		t.Error("a call writes behind a list")
	}
}

func FuzzRead(f *testing.F) {
	for _, h := range goods() {
		s, _ := header.Bytes(h)
		f.Add(s)
	}
	f.Fuzz(func(t *testing.T, s string) { read(t, s) })
}

func FuzzHeader(f *testing.F) {
	f.Add(text(32), uint64(3), text(32), text(32), text(20), "v", text(40), text(20), true, uint64(2), plainSig(seal(1)))
	f.Fuzz(func(t *testing.T, parent string, height uint64, root, txs, proposer, vanity, validators, vote string, add bool, round uint64, sigs string) {
		h := api.Header{Parent: parent, Height: height, Root: root, Txs: txs, Proposer: proposer, Vanity: vanity, Vote: vote, Add: add, Round: round}
		for ; len(validators) > 0; validators = validators[min(20, len(validators)):] {
			h.Validators = append(h.Validators, validators[:min(20, len(validators))])
		}
		for ; len(sigs) >= 65; sigs = sigs[65:] {
			r, _ := u256.From(sigs[:32])
			s, _ := u256.From(sigs[32:64])
			h.Seals = append(h.Seals, api.Sig{R: r, S: s, V: int(sigs[64])})
		}
		plainly(t, h)
		read(t, plainRecord(h))
	})
}

func BenchmarkId(b *testing.B) {
	h := base()
	for b.Loop() {
		header.Id(h)
	}
}

func BenchmarkRead(b *testing.B) {
	s, _ := header.Bytes(base())
	for b.Loop() {
		header.Read(s)
	}
}
