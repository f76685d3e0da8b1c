package block_test

import (
	"fmt"
	"math"
	"math/rand/v2"
	"slices"
	"strings"
	"testing"

	"ecclesia/api"
	"ecclesia/block"
	"ecclesia/keccak"
	"ecclesia/sign"
	"ecclesia/tx"
)

const most = math.MaxUint64

// text is bytes of all kinds, the same ones at each run.
func text(size int) string {
	made := make([]byte, size)
	rand.NewChaCha8([32]byte{18}).Read(made)
	return string(made)
}

// of is the address of twenty times one byte.
func of(one byte) string { return strings.Repeat(string([]byte{one}), 20) }

// hash is 32 times one byte.
func hash(one byte) string { return strings.Repeat(string([]byte{one}), 32) }

// wallets are addresses that were asked.
var wallets = map[uint64]string{}

// wallet is a secret's address.
func wallet(secret uint64) string {
	if wallets[secret] == "" {
		made, errno := sign.Address(api.U{secret})
		if errno != api.OK {
			panic(secret)
		}
		wallets[secret] = made
	}
	return wallets[secret]
}

// written is what a transfer is signed from.
type written struct {
	secret        uint64
	to            string
	amount, nonce uint64
}

// ready is transfers that were signed, as signing takes its time.
var ready = map[written]api.Tx{}

// signed is a secret's transfer.
func signed(secret uint64, to string, amount, nonce uint64) api.Tx {
	w := written{secret, to, amount, nonce}
	if made, is := ready[w]; is {
		return made
	}
	made, errno := tx.Sign(api.U{secret}, to, amount, nonce)
	if errno != api.OK {
		panic(fmt.Sprint(w, errno))
	}
	ready[w] = made
	return made
}

// pays is a secret's transfer to one that has nothing.
func pays(secret, amount, nonce uint64) api.Tx { return signed(secret, of('t'), amount, nonce) }

// some are so many transfers that no one needs to have signed.
func some(many int) []api.Tx {
	var made []api.Tx
	for i := range uint64(many) {
		made = append(made, api.Tx{To: text(20), Amount: i * i * i, Nonce: i, Sig: api.Sig{R: api.U{i, 1}, S: api.U{1, i}, V: int(i % 2)}})
	}
	return made
}

// unsigned is a transfer that may be, of no sender.
func unsigned() api.Tx {
	x := api.Tx{To: of('t'), Sig: api.Sig{R: api.U{1}, S: api.U{1}}}
	for {
		if _, errno := tx.Sender(x); errno == api.ErrSign {
			return x
		}
		x.Sig.R[0]++
	}
}

// noAddresses are texts that have not 20 bytes, one of them 20 runes.
func noAddresses() []string {
	list := []string{"", strings.Repeat("\xC3\xA4", 20)}
	for _, size := range []int{1, 19, 21, 32, 40, 256 + 20, 65536 + 20} {
		list = append(list, text(size), strings.Repeat("\x00", size))
	}
	return list
}

// wrong are transfers that may not be.
func wrong() []api.Tx {
	x := some(3)[2]
	list := []api.Tx{{}, {To: x.To, Amount: 1, Nonce: 1}, {To: x.To, Sig: api.Sig{R: x.Sig.R}}, {To: x.To, Sig: api.Sig{S: x.Sig.S}}}
	for _, beyond := range []api.U{{most, most, most, most}, {0, 0, 0, 1 << 63}} {
		list = append(list, api.Tx{To: x.To, Sig: api.Sig{R: x.Sig.R, S: beyond}})
	}
	for _, v := range []int{-1, 2, 27, 256, 257, math.MinInt, math.MaxInt} {
		list = append(list, api.Tx{To: x.To, Amount: 5, Sig: api.Sig{R: x.Sig.R, S: x.Sig.S, V: v}})
	}
	for _, addr := range noAddresses() {
		list = append(list, api.Tx{To: addr, Amount: 5, Sig: x.Sig})
	}
	return list
}

// put is a list of transfers with one put in at a place.
func put(l []api.Tx, at int, one api.Tx) []api.Tx { return slices.Insert(slices.Clone(l), at, one) }

// head is a header that may be.
func head() api.Header {
	return api.Header{Parent: hash('p'), Height: 300, Root: text(32), Txs: hash('s'), Proposer: of('a'), Vanity: "vain", Validators: []string{of('a'), of('b')},
		Vote: of('v'), Add: true, Round: 2, Seals: []api.Sig{{R: api.U{7}, S: api.U{9}, V: 1}, {R: api.U{8}, S: api.U{6}}}}
}

// blockOf is a block of transfers with their sum, whether it may be or not.
func blockOf(h api.Header, l ...api.Tx) api.Block {
	var sums string
	for _, one := range l {
		sums += keccak.Sum(plainTx(one))
	}
	h.Txs = keccak.Sum(sums)
	return api.Block{Header: h, Txs: l}
}

// least is the block that may be with the fewest bytes.
func least() api.Block {
	return blockOf(api.Header{Parent: hash(0), Root: hash(0), Proposer: of(0), Validators: []string{of(0)}})
}

// largest is a block that may be with as much in it as there may be.
func largest() api.Block {
	h := api.Header{Parent: hash(0xff), Height: most, Root: hash('r'), Proposer: of('a'), Vanity: "ecclesia", Vote: of(0xff), Add: true, Round: most}
	// n and n / 2.
	n, half := api.U{0xBFD25E8CD0364141, 0xBAAEDCE6AF48A03B, most - 1, most}, api.U{0xDFE92F46681B20A0, 0x5D576E7357A4501D, most, 1<<63 - 1}
	for i := range uint64(16) {
		h.Validators = append(h.Validators, of(byte(16*i)))
		h.Seals = append(h.Seals, api.Sig{R: api.U{i + 1}, S: api.U{half[0] - i, half[1], half[2], half[3]}, V: int(i % 2)})
	}
	var l []api.Tx
	for i := range uint64(4) {
		l = append(l, api.Tx{To: of(0xff), Amount: most, Nonce: most - i, Sig: api.Sig{R: api.U{n[0] - 1 - i, n[1], n[2], n[3]}, S: api.U{half[0] - i, half[1], half[2], half[3]}, V: 1}})
	}
	return blockOf(h, l...)
}

// goods are blocks that may be, no two of them the same.
func goods() []api.Block {
	list := []api.Block{least(), largest()}
	for many := range 5 {
		list = append(list, blockOf(head(), some(many)...))
	}
	bare := head()
	bare.Vanity, bare.Vote, bare.Add, bare.Seals, bare.Round = "", "", false, nil, 0
	x := pays(1, 4, 0)
	return append(list, blockOf(bare, x), blockOf(bare, pays(2, most, most), x), blockOf(bare, x, pays(2, most, most)),
		// One transfer more than once, and such as can't be done.
		blockOf(bare, x, x), blockOf(bare, x, x, x, x), blockOf(bare, unsigned()), blockOf(bare, x, unsigned(), pays(1, 4, 9), x),
		blockOf(bare, api.Tx{To: of(0), Sig: api.Sig{R: api.U{1}, S: api.U{1}}}))
}

// badHeads are headers that may not be, each for one reason.
func badHeads() []api.Header {
	var list []api.Header
	for _, change := range []func(h *api.Header){
		func(h *api.Header) { h.Parent = "" }, func(h *api.Header) { h.Parent += "x" }, func(h *api.Header) { h.Root = h.Root[1:] },
		func(h *api.Header) { h.Proposer = "" }, func(h *api.Header) { h.Proposer += "a" }, func(h *api.Header) { h.Vanity = "ecclesia!" },
		func(h *api.Header) { h.Validators = nil }, func(h *api.Header) { h.Validators = []string{of('b'), of('a')} },
		func(h *api.Header) { h.Validators = []string{of('b'), of('b')} }, func(h *api.Header) { h.Validators = []string{of('b'), "c"} },
		func(h *api.Header) { h.Vote = "v" }, func(h *api.Header) { h.Vote = "" },
		func(h *api.Header) { h.Seals = make([]api.Sig, 1) }, func(h *api.Header) { h.Seals[1].V = 2 }, func(h *api.Header) { h.Seals[0].S[3] = 1 << 63 },
		func(h *api.Header) {
			for range 15 {
				h.Seals = append(h.Seals, h.Seals[0])
			}
		},
		func(h *api.Header) {
			for i := range 15 {
				h.Validators = append(h.Validators, of(byte(i)+'c'))
			}
		},
	} {
		h := head()
		change(&h)
		list = append(list, h)
	}
	return list
}

// bads are blocks that may not be.
func bads() []api.Block {
	list := []api.Block{{}, {Txs: some(1)}, {Header: head()}, {Header: head(), Txs: some(2)}}
	for _, h := range badHeads() {
		list = append(list, blockOf(h), blockOf(h, some(3)...))
	}
	for _, many := range []int{5, 6, 8, 16, 30} {
		list = append(list, blockOf(head(), some(many)...))
	}
	for _, one := range wrong() {
		for at := range 4 {
			list = append(list, blockOf(head(), put(some(3), at, one)...))
		}
		list = append(list, blockOf(head(), one))
	}
	return append(list, otherSums()...)
}

// otherSums are blocks in which nothing but the sum is another one.
func otherSums() []api.Block {
	var list []api.Block
	add := func(b api.Block, sum string) {
		b.Header.Txs = sum
		list = append(list, b)
	}
	for many := range 5 {
		b := blockOf(head(), some(many)...)
		for other := range 6 {
			if other != many {
				add(b, blockOf(head(), some(other)...).Header.Txs)
			}
		}
		for at := range 32 {
			made := []byte(b.Header.Txs)
			made[at] ^= 1 << (at % 8)
			add(b, string(made))
		}
		add(b, b.Header.Txs[:31])
		add(b, b.Header.Txs+"\x00")
		add(b, "")
		add(b, b.Header.Root)
	}
	four := some(4)
	add(blockOf(head(), four...), blockOf(head(), four[1], four[0], four[2], four[3]).Header.Txs)
	add(blockOf(head(), four...), blockOf(head(), four[0], four[1], four[3], four[2]).Header.Txs)
	add(blockOf(head(), four...), blockOf(head(), four[:3]...).Header.Txs)
	add(blockOf(head(), four[0]), blockOf(head(), four[0], four[0]).Header.Txs)
	// The sum of one, not the sum of that; and the sum of bytes, not of sums.
	add(blockOf(head(), four[0]), keccak.Sum(plainTx(four[0])))
	add(blockOf(head(), four[:2]...), keccak.Of(plainTx(four[0]), plainTx(four[1])))
	return list
}

// copied is a block with lists of its own.
func copied(b api.Block) api.Block {
	b.Header.Validators, b.Header.Seals, b.Txs = slices.Clone(b.Header.Validators), slices.Clone(b.Header.Seals), slices.Clone(b.Txs)
	return b
}

// alike says if two blocks are the same.
func alike(a, b api.Block) bool {
	h, k := a.Header, b.Header
	texts := h.Parent == k.Parent && h.Root == k.Root && h.Txs == k.Txs && h.Proposer == k.Proposer && h.Vanity == k.Vanity && h.Vote == k.Vote
	numbers := h.Height == k.Height && h.Round == k.Round && h.Add == k.Add
	return texts && numbers && slices.Equal(h.Validators, k.Validators) && slices.Equal(h.Seals, k.Seals) && slices.Equal(a.Txs, b.Txs)
}

// flat is a block as far as a message needs it.
func flat(b api.Block) string {
	h := b.Header
	set := h.Validators[:min(20, len(h.Validators))]
	return fmt.Sprintf("%q %d %q %q %q %q %q %q %t %d %x; %s", h.Parent, h.Height, h.Root, h.Txs, h.Proposer, h.Vanity, set, h.Vote, h.Add, h.Round, h.Seals, flatTxs(b.Txs))
}

// flatTxs is a list of transfers as far as a message needs it.
func flatTxs(l []api.Tx) string {
	var made strings.Builder
	for _, one := range l[:min(20, len(l))] {
		fmt.Fprintf(&made, "[To %x, Amount %d, Nonce %d, Sig %x]", one.To, one.Amount, one.Nonce, one.Sig)
	}
	return made.String()
}

// same holds bytes that a call answers against what is wanted.
func same(t *testing.T, call, what, got string, e api.Errno, want string, errno api.Errno) {
	t.Helper()
	if got != want || e != errno {
		t.Fatalf("%s of %.1000s answers %X, %d, not %X, %d", call, what, got, e, want, errno)
	}
}

// sameBlock does so for a block.
func sameBlock(t *testing.T, s string, got api.Block, e api.Errno, want api.Block, errno api.Errno) {
	t.Helper()
	if !alike(got, want) || e != errno || e != api.OK && got.Txs != nil {
		t.Fatalf("Read of %d bytes %.400X answers %s, %d, not %s, %d", len(s), s, flat(got), e, flat(want), errno)
	}
}

// plainly holds all that is told of a block against what the chapter says, and
// that it stays as it was.
func plainly(t *testing.T, b api.Block) {
	t.Helper()
	was := copied(b)
	if want := plainRight(b); block.Right(b) != want {
		t.Fatalf("Right of %.1000s is not %t", flat(b), want)
	}
	got, e := block.Bytes(b)
	want, errno := plainBytes(b)
	same(t, "Bytes", flat(b), got, e, want, errno)
	summed(t, b.Txs)
	if !alike(b, was) {
		t.Fatalf("%.1000s has become %.1000s", flat(was), flat(b))
	}
}

// summed holds Sum against what the chapter says.
func summed(t *testing.T, l []api.Tx) {
	t.Helper()
	was := slices.Clone(l)
	got, e := block.Sum(l)
	want, errno := plainSum(l)
	same(t, "Sum", flatTxs(l), got, e, want, errno)
	if !slices.Equal(l, was) {
		t.Fatalf("%.1000s has become %.1000s", flatTxs(was), flatTxs(l))
	}
}

// read holds Read against what the chapter says, and answers if there is one.
func read(t *testing.T, s string) bool {
	t.Helper()
	got, e := block.Read(s)
	want, errno := plainRead(s)
	sameBlock(t, s, got, e, want, errno)
	if e != api.OK {
		return false
	}
	back, e := block.Bytes(got)
	same(t, "Bytes", flat(got), back, e, s, api.OK)
	return true
}

// none holds that bytes are no block's.
func none(t *testing.T, s string) {
	t.Helper()
	got, e := block.Read(s)
	sameBlock(t, s, got, e, api.Block{}, api.ErrForm)
	if read(t, s) {
		t.Fatalf("%X are a block's", s)
	}
}
