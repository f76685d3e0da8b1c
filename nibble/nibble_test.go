package nibble_test

import (
	"math/rand/v2"
	"slices"
	"strings"
	"testing"

	"ecclesia/api"
	"ecclesia/nibble"
)

// text is bytes of all kinds, the same ones at each run.
func text(size int) string {
	made := make([]byte, size)
	rand.NewChaCha8([32]byte{9}).Read(made)
	return string(made)
}

// part is half bytes of all kinds, the same ones at each run.
func part(size int) string {
	made := []byte(text(size))
	for i := range made {
		made[i] &= 15
	}
	return string(made)
}

// parts are all those of one length.
func parts(size int) []string {
	list := []string{""}
	for range size {
		var longer []string
		for _, one := range list {
			for half := range 16 {
				longer = append(longer, one+string([]byte{byte(half)}))
			}
		}
		list = longer
	}
	return list
}

// sizes are lengths of texts: the first ones, those about a key's greatest, and
// some that are far greater.
func sizes() []int {
	list := []int{62, 63, 64, 65, 66, 67, 126, 127, 128, 129, 255, 256, 257, 1000, 1001, 4000, 4001, 65535, 65536, 65537}
	for size := range 40 {
		list = append(list, size)
	}
	return list
}

// spoilt are texts of one length that are no parts: one byte in each place, or
// about each edge of a long one, or all of them.
func spoilt(size int) []string {
	var list []string
	for at := range size {
		if at > 40 && at < size-40 {
			continue
		}
		for _, bad := range []byte{16, 17, 31, 32, 48, 64, 127, 128, 129, 143, 144, 240, 255} {
			whole := []byte(part(size))
			whole[at] = bad
			list = append(list, string(whole))
		}
	}
	for _, bad := range []string{"\x10", "0", "f", "\x80", "\xff"} {
		if size > 0 {
			list = append(list, strings.Repeat(bad, size))
		}
	}
	return list
}

// keyed holds what Key answers against what is wanted.
func keyed(t *testing.T, part, want string, errno api.Errno) {
	t.Helper()
	if got, e := nibble.Key(part); got != want || e != errno {
		t.Fatalf("Key of %d bytes %.40x = %.40x, %d, not %.40x, %d", len(part), part, got, e, want, errno)
	}
}

// packed holds what Pack answers against what is wanted.
func packed(t *testing.T, part string, ends bool, want string, errno api.Errno) {
	t.Helper()
	if got, e := nibble.Pack(part, ends); got != want || e != errno {
		t.Fatalf("Pack of %d bytes %.40x, %t = %.40x, %d, not %.40x, %d", len(part), part, ends, got, e, want, errno)
	}
}

// unpacked holds what Unpack answers against what is wanted.
func unpacked(t *testing.T, s, want string, ends bool, errno api.Errno) {
	t.Helper()
	if got, is, e := nibble.Unpack(s); got != want || is != ends || e != errno {
		t.Fatalf("Unpack of %d bytes %.40x = %.40x, %t, %d, not %.40x, %t, %d", len(s), s, got, is, e, want, ends, errno)
	}
}

// plainly holds what Unpack answers against what the chapter says.
func plainly(t *testing.T, s string) api.Errno {
	t.Helper()
	want, ends, errno := plainUnpack(s)
	unpacked(t, s, want, ends, errno)
	return errno
}

// refused holds that a text is no part.
func refused(t *testing.T, s string) {
	t.Helper()
	keyed(t, s, "", api.ErrArg)
	packed(t, s, false, "", api.ErrArg)
	packed(t, s, true, "", api.ErrArg)
}

// TestOf is for P9.1: keys, and their parts.
func TestOf(t *testing.T) {
	cases := []struct{ key, part string }{
		{"", ""}, {"\x00", "\x00\x00"}, {"\x01", "\x00\x01"}, {"\x10", "\x01\x00"}, {"\x0f", "\x00\x0f"},
		{"\xf0", "\x0f\x00"}, {"\xff", "\x0f\x0f"}, {"\x7f", "\x07\x0f"}, {"\x80", "\x08\x00"}, {"a", "\x06\x01"},
		{"\x1f\x02", "\x01\x0f\x00\x02"}, {"dog", "\x06\x04\x06\x0f\x06\x07"}, {"é", "\x0c\x03\x0a\x09"},
		{"\x01\x23\x45\x67\x89\xab\xcd\xef", "\x00\x01\x02\x03\x04\x05\x06\x07\x08\x09\x0a\x0b\x0c\x0d\x0e\x0f"},
	}
	for _, c := range cases {
		if got := nibble.Of(c.key); got != c.part {
			t.Errorf("Of(%x) = %x, not %x", c.key, got, c.part)
		}
		keyed(t, c.part, c.key, api.OK)
	}
}

// TestOfAll is for P9.1: all keys of two bytes, and keys of all lengths.
func TestOfAll(t *testing.T) {
	var keys []string
	for first := range 256 {
		keys = append(keys, string([]byte{byte(first)}))
		for second := range 256 {
			keys = append(keys, string([]byte{byte(first), byte(second)}))
		}
	}
	for _, size := range sizes() {
		keys = append(keys, text(size), strings.Repeat("\xff", size), strings.Repeat("\x00", size))
	}
	for _, key := range append(keys, text(1<<20)) {
		want := plainOf(key)
		if got := nibble.Of(key); got != want {
			t.Fatalf("Of(%.40x) = %.40x, not %.40x", key, got, want)
		}
		keyed(t, want, key, api.OK)
	}
}

// TestKey is for P9.1: parts of all lengths, of which each second one is a
// key's; all parts of up to four half bytes.
func TestKey(t *testing.T) {
	keyed(t, "", "", api.OK)
	keyed(t, "\x00\x00", "\x00", api.OK)
	keyed(t, "\x0a\x0b\x0c\x0d", "\xab\xcd", api.OK)
	keyed(t, "\x01", "", api.ErrArg)
	keyed(t, "\x01\x02\x03", "", api.ErrArg)
	var list []string
	for size := range 5 {
		list = append(list, parts(size)...)
	}
	for _, size := range sizes() {
		list = append(list, part(size))
	}
	for _, one := range list {
		want, errno := plainKey(one)
		if (errno == api.OK) != (len(one)%2 == 0) {
			t.Fatalf("%d half bytes: %d", len(one), errno)
		}
		keyed(t, one, want, errno)
	}
}

// TestPack is for P9.1: the chapter's examples, and what others have told.
func TestPack(t *testing.T) {
	cases := []struct {
		part string
		ends bool
		want string
	}{
		{"\x01\x02\x03", false, "\x11\x23"}, {"\x01\x02", true, "\x20\x12"},
		{"", false, "\x00"}, {"", true, "\x20"}, {"\x00", false, "\x10"}, {"\x00", true, "\x30"},
		{"\x05", false, "\x15"}, {"\x05", true, "\x35"}, {"\x0f", false, "\x1f"}, {"\x0f", true, "\x3f"},
		{"\x00\x00", false, "\x00\x00"}, {"\x00\x00", true, "\x20\x00"},
		{"\x01\x02\x03\x04\x05", false, "\x11\x23\x45"},
		{"\x00\x01\x02\x03\x04\x05", false, "\x00\x01\x23\x45"},
		{"\x00\x0f\x01\x0c\x0b\x08", true, "\x20\x0f\x1c\xb8"},
		{"\x0f\x01\x0c\x0b\x08", true, "\x3f\x1c\xb8"},
	}
	for _, c := range cases {
		packed(t, c.part, c.ends, c.want, api.OK)
		unpacked(t, c.want, c.part, c.ends, api.OK)
	}
}

// TestPackAll is for P9.1 and P9.3: all parts of up to four half bytes, and
// parts of all lengths; no two are packed alike.
func TestPackAll(t *testing.T) {
	var list []string
	for size := range 5 {
		list = append(list, parts(size)...)
	}
	for _, size := range append(sizes(), 1<<20, 1<<20+1) {
		list = append(list, part(size), strings.Repeat("\x0f", size))
	}
	slices.Sort(list)
	seen := map[string]int{}
	for _, one := range slices.Compact(list) {
		for _, ends := range []bool{false, true} {
			want, errno := plainPack(one, ends)
			packed(t, one, ends, want, errno)
			unpacked(t, want, one, ends, api.OK)
			if seen[want]++; seen[want] > 1 {
				t.Fatalf("%.40x is what two parts are packed as", want)
			}
		}
	}
}

// TestNoPart is for P9.1: bytes that are no half bytes, in each place, in rows
// of an even number and of an odd one.
func TestNoPart(t *testing.T) {
	for bad := 16; bad < 256; bad++ {
		one := string([]byte{byte(bad)})
		for _, ahead := range []string{"", "\x00", "\x0f", "\x01\x02", "\x01\x02\x03"} {
			for _, behind := range []string{"", "\x00", "\x0f", "\x04\x05", "\xff"} {
				refused(t, ahead+one+behind)
			}
		}
	}
	for _, size := range []int{1, 2, 3, 4, 5, 31, 32, 33, 63, 64, 65, 500, 501} {
		for _, whole := range spoilt(size) {
			refused(t, whole)
		}
	}
	for _, key := range []string{"a", "key", "0123", text(32), text(33)} {
		refused(t, key)
	}
}

// TestUnpack is for P9.1: all texts of up to two bytes, and longer ones behind
// each first byte; as many of them are a packed part's as the chapter makes.
func TestUnpack(t *testing.T) {
	if plainly(t, "") != api.ErrForm {
		t.Error("no bytes are a packed part's")
	}
	count := [3]int{}
	for first := range 256 {
		one := string([]byte{byte(first)})
		if plainly(t, one) == api.OK {
			count[1]++
		}
		for second := range 256 {
			if plainly(t, one+string([]byte{byte(second)})) == api.OK {
				count[2]++
			}
		}
		for _, size := range []int{2, 3, 7, 31, 32, 33, 100} {
			plainly(t, one+text(size))
			plainly(t, one+strings.Repeat("\xff", size))
			plainly(t, one+strings.Repeat("\x00", size))
		}
	}
	// Of an odd number of half bytes 16 first ones, of an even one none, each
	// with either end.
	if count != [3]int{0, 2*16 + 2, (2*16 + 2) * 256} {
		t.Errorf("%v texts of one and two bytes are a packed part's", count)
	}
}

// TestUnpackForm is for P9.1: heads that no packed part has, however it goes on.
func TestUnpackForm(t *testing.T) {
	for _, behind := range []string{"", "\x00", "\x12", "\xff\xff", text(32), text(1001)} {
		for low := range 16 {
			for high := 4; high < 16; high++ {
				unpacked(t, string([]byte{byte(high<<4 | low)})+behind, "", false, api.ErrForm)
			}
			for _, high := range []int{0, 2} {
				if low > 0 {
					unpacked(t, string([]byte{byte(high<<4 | low)})+behind, "", false, api.ErrForm)
				}
			}
			one := string([]byte{byte(low)}) + nibble.Of(behind)
			unpacked(t, string([]byte{byte(0x10 | low)})+behind, one, false, api.OK)
			unpacked(t, string([]byte{byte(0x30 | low)})+behind, one, true, api.OK)
		}
		unpacked(t, "\x00"+behind, nibble.Of(behind), false, api.OK)
		unpacked(t, "\x20"+behind, nibble.Of(behind), true, api.OK)
	}
}

// TestShare is for P9.2: texts that begin alike, and such as do not; their bytes
// may be any.
func TestShare(t *testing.T) {
	cases := []struct {
		a, b string
		want int
	}{
		{"", "", 0}, {"", "a", 0}, {"a", "a", 1}, {"a", "b", 0}, {"abc", "abd", 2}, {"abc", "ab", 2}, {"abc", "abc", 3},
		{"abc", "abcdef", 3}, {"xbc", "abc", 0}, {"axc", "abc", 1}, {"\x00", "\x00\x00", 1}, {"\x00", "", 0},
		{"\x01\x02\x03", "\x01\x02\x04", 2}, {"\x01\x02", "\x01\x02\x00", 2}, {"\xff\xfe", "\xff\xff", 1}, {"\x80", "\x00", 0},
		{"é", "è", 1}, {"éa", "éb", 2}, {"a\xff", "a\xfe", 1}, {"ab", "aB", 1},
	}
	for _, c := range cases {
		if got := nibble.Share(c.a, c.b); got != c.want {
			t.Errorf("Share(%x, %x) = %d, not %d", c.a, c.b, got, c.want)
		}
		if got := nibble.Share(c.b, c.a); got != c.want {
			t.Errorf("Share(%x, %x) = %d, not %d", c.b, c.a, got, c.want)
		}
	}
}

// TestShareAll is for P9.2: all pairs of texts of up to five bytes of two kinds.
func TestShareAll(t *testing.T) {
	list, row := []string{""}, []string{""}
	for range 5 {
		var longer []string
		for _, one := range row {
			longer = append(longer, one+"\x00", one+"\xf1")
		}
		row = longer
		list = append(list, row...)
	}
	for _, a := range list {
		for _, b := range list {
			if got, want := nibble.Share(a, b), plainShare(a, b); got != want {
				t.Errorf("Share(%x, %x) = %d, not %d", a, b, got, want)
			}
		}
	}
}

// TestShareLong is for P9.2: long texts that are unlike in one place, by one bit
// alone, or by a byte that one lacks, and go on alike.
func TestShareLong(t *testing.T) {
	for _, size := range []int{1, 2, 31, 32, 63, 64, 65, 256, 300, 4000} {
		whole := text(size)
		if got := nibble.Share(whole, strings.Clone(whole)); got != size {
			t.Errorf("a text of %d bytes and itself: %d", size, got)
		}
		for at := range size {
			if at > 70 && at < size-70 {
				continue
			}
			for bit := range 8 {
				other := []byte(whole)
				other[at] ^= 1 << bit
				if got := nibble.Share(whole, string(other)); got != at {
					t.Errorf("texts of %d bytes, unlike at %d: %d", size, at, got)
				}
			}
			if got := nibble.Share(whole[:at], whole); got != at {
				t.Errorf("%d bytes of a text of %d: %d", at, size, got)
			}
		}
	}
}

// TestShareParts is for P9.2: keys' parts begin alike in twice as many half
// bytes as keys in bytes, or in one more.
func TestShareParts(t *testing.T) {
	source := rand.New(rand.NewPCG(9, 2))
	odd := 0
	for range 5000 {
		a := []byte(text(32))
		b := slices.Clone(a)
		b[source.IntN(32)] ^= byte(1 << source.IntN(8))
		x, y := string(a), string(b[:source.IntN(33)])
		keys, halves := nibble.Share(x, y), nibble.Share(nibble.Of(x), nibble.Of(y))
		if halves != 2*keys && halves != 2*keys+1 || keys == len(y) && halves != 2*keys {
			t.Fatalf("%x and %x begin alike with %d bytes, but %d half bytes", x, y, keys, halves)
		}
		odd += halves % 2
	}
	if odd < 500 {
		t.Errorf("%d pairs of keys are unlike in a lower half", odd)
	}
}

// TestBothWays is for P9.3: keys and parts, parts and what they are packed as,
// in both directions.
func TestBothWays(t *testing.T) {
	source := rand.New(rand.NewPCG(9, 3))
	for i := range 20000 {
		size := source.IntN(80)
		key := make([]byte, size)
		for at := range key {
			key[at] = byte(source.IntN(256))
		}
		whole := string(key)
		keyed(t, nibble.Of(whole), whole, api.OK)
		one := nibble.Of(whole)[min(2*size, source.IntN(2)):]
		if back, e := nibble.Key(one); e == api.OK && nibble.Of(back) != one {
			t.Fatalf("%x is the key of %x", back, one)
		}
		ends := i%2 == 0
		text, e := nibble.Pack(one, ends)
		if e != api.OK {
			t.Fatalf("Pack of %x: %d", one, e)
		}
		unpacked(t, text, one, ends, api.OK)
		if one, ends, e := nibble.Unpack(whole); e == api.OK {
			packed(t, one, ends, whole, api.OK)
		}
	}
}

// TestAlone is for P9.1, P9.2 and R1: what is answered hangs on the arguments
// alone, not on what was asked between, and stays.
func TestAlone(t *testing.T) {
	for _, size := range []int{0, 1, 2, 33, 500} {
		key := text(size)
		one := nibble.Of(key)
		whole, _ := nibble.Pack(one, true)
		back, _, _ := nibble.Unpack(whole)
		nibble.Of("other")
		nibble.Pack(one, false)
		nibble.Pack("\xff", true)
		nibble.Unpack("\xff")
		nibble.Key("\x01")
		if again, _ := nibble.Pack(nibble.Of(key), true); again != whole || back != one || one != plainOf(key) || key != text(size) {
			t.Errorf("a second call answers another thing of %d bytes", size)
		}
	}
}

// FuzzUnpack is for P9.1 and P9.3: any bytes at all.
func FuzzUnpack(f *testing.F) {
	for _, s := range []string{"", "\x00", "\x11\x23", "\x20\x12", "\x3f", "\x40", "\x01"} {
		f.Add(s)
	}
	f.Fuzz(func(t *testing.T, s string) {
		if plainly(t, s) == api.OK {
			one, ends, _ := nibble.Unpack(s)
			packed(t, one, ends, s, api.OK)
		}
		keyed(t, nibble.Of(s), s, api.OK)
		want, errno := plainKey(s)
		keyed(t, s, want, errno)
		want, errno = plainPack(s, true)
		packed(t, s, true, want, errno)
	})
}

func BenchmarkOf(b *testing.B) {
	key := text(32)
	for b.Loop() {
		nibble.Of(key)
	}
}

func BenchmarkPack(b *testing.B) {
	one := part(63)
	for b.Loop() {
		nibble.Pack(one, true)
	}
}

func BenchmarkUnpack(b *testing.B) {
	whole, _ := nibble.Pack(part(63), true)
	for b.Loop() {
		nibble.Unpack(whole)
	}
}
