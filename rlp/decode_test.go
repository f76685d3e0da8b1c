package rlp_test

import (
	"encoding/binary"
	"math/rand/v2"
	"slices"
	"strings"
	"testing"

	"ecclesia/api"
	"ecclesia/rlp"
)

// decoded holds what Decode answers against what is wanted, and that what is
// read, written, is the bytes.
func decoded(t *testing.T, s string, want api.Item, errno api.Errno) {
	t.Helper()
	got, e := rlp.Decode(s)
	if e != errno || !same(got, want) {
		t.Errorf("Decode of %d bytes %.20x answers %s, %d, not %s, %d", len(s), s, shown(got), e, shown(want), errno)
	}
	if e != api.OK {
		return
	}
	if back, e := rlp.Encode(got); back != s || e != api.OK {
		t.Errorf("%.20x, read, is written %.20x, %d", s, back, e)
	}
}

// refused holds that bytes are refused.
func refused(t *testing.T, s string, errno api.Errno) {
	t.Helper()
	decoded(t, s, api.Item{}, errno)
}

// plainly holds what Decode answers against what the chapter says.
func plainly(t *testing.T, s string) api.Errno {
	t.Helper()
	want, errno := plainDecode(s)
	decoded(t, s, want, errno)
	return errno
}

// TestDecode is for P8.2: the chapter's examples, and what others have told.
func TestDecode(t *testing.T) {
	for _, c := range told() {
		decoded(t, c.want, c.item, api.OK)
	}
	for _, x := range some() {
		decoded(t, plainWritten(x), x, api.OK)
	}
}

// TestDecodeShort is for P8.2 and P8.4: all texts of up to two bytes, and those
// of three and four with bytes of each kind; there are as many that are some
// item's as the chapter makes.
func TestDecodeShort(t *testing.T) {
	refused(t, "", api.ErrForm)
	edges := []byte{0, 1, 0x37, 0x38, 0x7F, 0x80, 0x81, 0x82, 0xB7, 0xB8, 0xB9, 0xBF, 0xC0, 0xC1, 0xC2, 0xF7, 0xF8, 0xF9, 0xFF}
	count := [3]int{}
	for first := range 256 {
		if plainly(t, string([]byte{byte(first)})) == api.OK {
			count[1]++
		}
		for second := range 256 {
			if plainly(t, string([]byte{byte(first), byte(second)})) == api.OK {
				count[2]++
			}
			for _, third := range edges {
				plainly(t, string([]byte{byte(first), byte(second), third}))
			}
		}
		for _, second := range edges {
			for _, third := range edges {
				for _, fourth := range edges {
					plainly(t, string([]byte{byte(first), second, third, fourth}))
				}
			}
		}
	}
	// One byte: itself, no bytes, or no kids. Two: a byte with a head, or a list
	// of an item of one byte.
	if count != [3]int{0, 128 + 2, 128 + 130} {
		t.Errorf("%v texts of one and two bytes are some item's", count)
	}
}

// TestDecodeEnds is for P8.2: bytes that end too early, or go on.
func TestDecodeEnds(t *testing.T) {
	for _, x := range some() {
		whole := plainWritten(x)
		for end := range len(whole) {
			if end > 300 && end < len(whole)-300 && end%37 != 0 {
				continue
			}
			refused(t, whole[:end], api.ErrForm)
		}
		for _, more := range []string{"\x00", "a", "\x80", "\xc0", "\xff", "dog"} {
			if len(whole)+len(more) <= 4000 {
				refused(t, whole+more, api.ErrForm)
			}
		}
		if 2*len(whole) <= 4000 {
			refused(t, whole+whole, api.ErrForm)
		}
	}
}

// TestDecodeKids is for P8.2: a kid that does not end where its list does.
func TestDecodeKids(t *testing.T) {
	for _, s := range []string{
		"\xc1\x81", "\xc1\x83dog", "\xc3\x83dog", "\xc4\x84dogs", "\xc2\xc2a", "\xc2\xc2ab", "\xc1\xc1", "\xc1\xc1a", "\xc1\xb8",
		"\xc2\xb8\x38", "\xc3\x83cat\x83dog", "\xc1\xf8", "\xc2\xf8\x38" + strings.Repeat("a", 56), "\xc3\xc1\xc1\xc0\xc0",
		"\xc5\xc1a\xc5bcd", "\xf8\x38" + strings.Repeat("a", 55) + "\x81\x80", "\xf8\x38" + strings.Repeat("a", 54) + "\xc2",
	} {
		refused(t, s, api.ErrForm)
	}
	decoded(t, "\xc4\x83dog", list(of("dog")), api.OK)
	decoded(t, "\xc3\xc1\xc0\xc0", list(list(list()), list()), api.OK)
}

// TestDecodeSingle is for P8.2: a byte below 80 with a head.
func TestDecodeSingle(t *testing.T) {
	for b := range 256 {
		one := string([]byte{byte(b)})
		for _, c := range []struct{ ahead, behind string }{{"", ""}, {"\xc2", ""}, {"\xc4a", "b"}, {"\xc3\xc2", ""}} {
			s := c.ahead + "\x81" + one + c.behind
			if errno := plainly(t, s); (errno == api.OK) != (b >= 0x80) {
				t.Errorf("Decode of %x: %d", s, errno)
			}
		}
	}
}

// counted is a text behind a head that tells its length by so many bytes.
func counted(first byte, many int, n uint64, text string) string {
	whole := binary.BigEndian.AppendUint64(nil, n)
	return string([]byte{first + byte(many)}) + string(whole[8-many:]) + text
}

// TestDecodeHeads is for P8.2: heads that another one is shorter than, that have
// a 00 ahead, or that tell of more bytes than there are.
func TestDecodeHeads(t *testing.T) {
	for _, first := range []byte{0xB7, 0xF7} {
		for _, size := range []int{0, 1, 2, 54, 55, 56, 57, 255, 256, 257, 1000, 3990} {
			for length := 1; length <= 8; length++ {
				if length == 1 && size > 255 {
					continue
				}
				for _, whole := range []string{strings.Repeat("a", size), strings.Repeat("\xc0", size)} {
					s := counted(first, length, uint64(size), whole)
					right := length == 1 && size >= 56 || length == 2 && size >= 256
					if errno := plainly(t, s); (errno == api.OK) != right {
						t.Errorf("Decode of %d bytes by a head of %d: %d", size, length, errno)
					}
				}
			}
		}
		for length := 1; length <= 8; length++ {
			most := uint64(1)<<(8*length-1)<<1 - 1
			for _, n := range []uint64{most, most - 1, most/2 + 1, most / 2, most - 9, most - 8, most - 63} {
				for _, size := range []int{0, 1, 8, 9, 60} {
					refused(t, counted(first, length, n, strings.Repeat("a", size)), api.ErrForm)
					refused(t, inList(counted(first, length, n, strings.Repeat("a", size))), api.ErrForm)
				}
			}
		}
	}
}

// inList is a list's head, a kid, and what might be more of them.
func inList(inside string) string {
	inside = "b" + inside
	return plainHead(0xC0, 0xF7, len(inside)) + inside
}

// TestDecodeLong is for P8.2: 4000 bytes, and more, also such as no item has.
func TestDecodeLong(t *testing.T) {
	decoded(t, plainWritten(of(text(3997))), of(text(3997)), api.OK)
	decoded(t, plainWritten(many(of("a"), 3997)), many(of("a"), 3997), api.OK)
	refused(t, plainWritten(of(text(3998))), api.ErrLong)
	refused(t, plainWritten(many(of("a"), 3998)), api.ErrLong)
	refused(t, plainWritten(many(lists(9), 500)), api.ErrLong)
	for _, whole := range kinds(4000) {
		refused(t, whole, api.ErrForm)
	}
	for _, size := range []int{4001, 4002, 4096, 8000, 65536, 65537, 65536 + 5, 1 << 20} {
		for _, whole := range append(kinds(size), plainWritten(of(text(size-3))), plainWritten(of(text(size)))) {
			refused(t, whole, api.ErrLong)
		}
	}
}

// deepest is as many lists, one in another, as have at most 4000 bytes.
func deepest() string {
	whole := "\xc0"
	for {
		next := plainHead(0xC0, 0xF7, len(whole)) + whole
		if len(next) > 4000 {
			return whole
		}
		whole = next
	}
}

// TestDecodeDeep is for P8.2: lists of each depth, at each place.
func TestDecodeDeep(t *testing.T) {
	for deep := 1; deep <= 300; deep++ {
		for _, x := range []api.Item{lists(deep), nested(of("dog"), deep), list(of("a"), lists(deep), of("b")), list(lists(deep), list()), list(list(), lists(deep))} {
			whole := plainWritten(x)
			if plainDepth(x) > 8 {
				refused(t, whole, api.ErrDeep)
			} else {
				decoded(t, whole, x, api.OK)
			}
		}
	}
	refused(t, deepest(), api.ErrDeep)
	refused(t, plainWritten(many(lists(9), 400)), api.ErrDeep)
	refused(t, plainWritten(nested(many(of("a"), 3900), 8)), api.ErrDeep)
	refused(t, plainWritten(nested(of(text(3900)), 9)), api.ErrDeep)
}

// wrapped is what might be an item in so many lists.
func wrapped(inside string, deep int) string {
	for range deep {
		inside = plainHead(0xC0, 0xF7, len(inside)) + inside
	}
	return inside
}

// TestDecodeDeepForm is for P8.2: bytes that no item has are so however deep the
// lists are in which they stand, or ahead of which, or behind which.
func TestDecodeDeepForm(t *testing.T) {
	for _, bad := range []string{"\x81\x01", "\xb8\x01a", "\xc1", "\xf8\x00", "\xbf", "\xff", "\xb9\x00\x38" + strings.Repeat("a", 56), "\xc2\x82a"} {
		for _, deep := range []int{0, 1, 6, 7, 8, 9, 10, 60, 300} {
			refused(t, wrapped(bad, deep), api.ErrForm)
			refused(t, wrapped("a"+bad, deep+1), api.ErrForm)
			refused(t, wrapped(plainWritten(lists(20))+bad, deep+1), api.ErrForm)
			refused(t, wrapped(bad+plainWritten(lists(20)), deep+1), api.ErrForm)
		}
		refused(t, plainWritten(lists(20))+bad, api.ErrForm)
	}
	for _, deep := range []int{9, 20, 300} {
		whole := plainWritten(lists(deep))
		refused(t, whole+"a", api.ErrForm)
		refused(t, whole[:len(whole)-1], api.ErrForm)
		refused(t, whole[1:len(whole)-1]+"\xc1", api.ErrForm)
	}
}

// shape is an item of any shape, with about so many bytes at most.
func shape(source *rand.Rand, deep, room int) api.Item {
	if deep == 0 || source.IntN(3) == 0 {
		switch size := source.IntN(room + 1); source.IntN(4) {
		case 0:
			return of(string([]byte{byte(source.IntN(256))}))
		case 1:
			return of(text(min(size, 60)))
		default:
			return of(text(size))
		}
	}
	x := api.Item{List: true}
	for range source.IntN(6) {
		x.Kids = append(x.Kids, shape(source, deep-1, room/4))
	}
	return x
}

// TestBothWays is for P8.4: what is written is read again, of items of all
// shapes; no two of them have one writing.
func TestBothWays(t *testing.T) {
	source := rand.New(rand.NewPCG(8, 4))
	seen := map[string]api.Item{}
	for range 20000 {
		x := shape(source, 1+source.IntN(10), 1+source.IntN(2500))
		want, errno := plainEncode(x)
		got, e := rlp.Encode(x)
		if got != want || e != errno {
			t.Fatalf("Encode of %s answers %.20x, %d, not %.20x, %d", shown(x), got, e, want, errno)
		}
		if e != api.OK {
			continue
		}
		decoded(t, got, x, api.OK)
		if other, ok := seen[got]; ok && !same(other, x) {
			t.Fatalf("%s and %s have one writing", shown(other), shown(x))
		}
		seen[got] = x
	}
	if len(seen) < 5000 {
		t.Errorf("%d unlike items", len(seen))
	}
}

// TestTurned is for P8.2 and P8.4: writings with a few bytes turned, taken out
// or laid between.
func TestTurned(t *testing.T) {
	source := rand.New(rand.NewPCG(8, 2))
	count := map[api.Errno]int{}
	for range 20000 {
		made := []byte(plainWritten(shape(source, 1+source.IntN(10), 1+source.IntN(300))))
		for range 1 + source.IntN(2) {
			at := source.IntN(len(made) + 1)
			switch kind := source.IntN(4); {
			case at == len(made) || kind == 0:
				made = slices.Insert(made, at, byte(source.IntN(256)))
			case kind == 1 && len(made) > 1:
				made = slices.Delete(made, at, at+1)
			case kind == 2:
				made[at]++
			default:
				made[at] ^= byte(1 << source.IntN(8))
			}
		}
		count[plainly(t, string(made))]++
	}
	for _, errno := range []api.Errno{api.OK, api.ErrForm, api.ErrDeep} {
		if count[errno] < 100 {
			t.Errorf("%d texts are told %d", count[errno], errno)
		}
	}
}

// FuzzDecode is for P8.2 and P8.4: any bytes at all.
func FuzzDecode(f *testing.F) {
	for _, c := range told() {
		f.Add(c.want)
	}
	f.Add(deepest())
	f.Fuzz(func(t *testing.T, s string) { plainly(t, s) })
}

func BenchmarkDecode(b *testing.B) {
	whole := plainWritten(list(many(of(text(32)), 17), list(of(text(20)), of("a"))))
	for b.Loop() {
		rlp.Decode(whole)
	}
}

func BenchmarkDecodeDeepest(b *testing.B) {
	whole := deepest()
	for b.Loop() {
		rlp.Decode(whole)
	}
}
