package rlp_test

import (
	"math/rand/v2"
	"strings"
	"testing"

	"ecclesia/api"
	"ecclesia/rlp"
)

// text is bytes of all kinds, the same ones at each run.
func text(size int) string {
	made := make([]byte, size)
	rand.NewChaCha8([32]byte{8}).Read(made)
	return string(made)
}

// kinds are texts of one length.
func kinds(size int) []string {
	list := []string{text(size)}
	for _, one := range []string{"\x00", "\x01", "\x7f", "\x80", "\xc0", "\xff"} {
		list = append(list, strings.Repeat(one, size))
	}
	return list
}

// of is bytes as an item, list a list of items, both without the package's help.
func of(s string) api.Item { return api.Item{Bytes: s} }

func list(kids ...api.Item) api.Item { return api.Item{List: true, Kids: kids} }

// many is a list of an item, so many times.
func many(x api.Item, times int) api.Item {
	made := api.Item{List: true}
	for range times {
		made.Kids = append(made.Kids, x)
	}
	return made
}

// nested is an item in so many lists.
func nested(x api.Item, times int) api.Item {
	for range times {
		x = list(x)
	}
	return x
}

// lists are a list without kids, in so many less one: the deepest is the last.
func lists(deep int) api.Item { return nested(list(), deep-1) }

// mixed are some that are neither bytes nor a list.
func mixed() []api.Item {
	return []api.Item{
		{List: true, Bytes: "x"},
		{List: true, Bytes: "\x00"},
		{List: true, Bytes: "x", Kids: []api.Item{of("y")}},
		{Kids: []api.Item{{}}},
		{Kids: []api.Item{of("y")}},
		{Bytes: "x", Kids: []api.Item{list()}},
	}
}

// some are items that may be, with at most 4000 bytes, written.
func some() []api.Item {
	made := []api.Item{
		{}, of("a"), of("\x00"), of("\x7f"), of("\x80"), of("\xff"), of("dog"),
		list(), list(of("")), list(list()), list(of("cat"), of("dog")), lists(8), nested(of("x"), 8),
		list(list(), list(list()), list(list(), list(list()))),
		list(list(list(), of("a"), lists(6)), of(text(60)), many(of("\x80"), 30)),
		many(of("a"), 3997), many(list(), 3997), nested(of(text(3976)), 7),
	}
	for _, size := range []int{2, 54, 55, 56, 57, 255, 256, 257, 3996, 3997} {
		made = append(made, of(text(size)), many(of("z"), size), many(of("\xc0"), size/2))
	}
	return made
}

// encoded holds what Encode answers against what is wanted.
func encoded(t *testing.T, x api.Item, want string, errno api.Errno) {
	t.Helper()
	if got, e := rlp.Encode(x); got != want || e != errno {
		t.Errorf("Encode answers %d bytes %.20x, %d, not %d bytes %.20x, %d", len(got), got, e, len(want), want, errno)
	}
}

// told are items with their bytes, as others have told them.
func told() []struct {
	item api.Item
	want string
} {
	lorem := "Lorem ipsum dolor sit amet, consectetur adipisicing elit"
	wide := list(of("asdf"), of("qwer"), of("zxcv"))
	return []struct {
		item api.Item
		want string
	}{
		{of(""), "\x80"},
		{of("\x00"), "\x00"},
		{of("\x01"), "\x01"},
		{of("\x0f"), "\x0f"},
		{of("\x7f"), "\x7f"},
		{of("\x80"), "\x81\x80"},
		{of("\xff"), "\x81\xff"},
		{of("\x04\x00"), "\x82\x04\x00"},
		{of("\x00\x00"), "\x82\x00\x00"},
		{of("dog"), "\x83dog"},
		{of(lorem[:55]), "\xb7" + lorem[:55]},
		{of(lorem), "\xb8\x38" + lorem},
		{of(strings.Repeat("a", 255)), "\xb8\xff" + strings.Repeat("a", 255)},
		{of(strings.Repeat("a", 256)), "\xb9\x01\x00" + strings.Repeat("a", 256)},
		{of(strings.Repeat("a", 1024)), "\xb9\x04\x00" + strings.Repeat("a", 1024)},
		{of(strings.Repeat("a", 3997)), "\xb9\x0f\x9d" + strings.Repeat("a", 3997)},
		{list(), "\xc0"},
		{list(of("")), "\xc1\x80"},
		{list(list()), "\xc1\xc0"},
		{list(of("cat"), of("dog")), "\xc8\x83cat\x83dog"},
		{list(of("dog"), of("god"), of("cat")), "\xcc\x83dog\x83god\x83cat"},
		{list(of("zw"), list(of("\x04")), of("\x01")), "\xc6\x82zw\xc1\x04\x01"},
		{list(list(), list(list()), list(list(), list(list()))), "\xc7\xc0\xc1\xc0\xc3\xc0\xc1\xc0"},
		{list(list(list(), list()), list()), "\xc4\xc2\xc0\xc0\xc0"},
		{list(wide, wide, wide, wide), "\xf8\x40" + strings.Repeat("\xcf\x84asdf\x84qwer\x84zxcv", 4)},
		{many(of("a"), 55), "\xf7" + strings.Repeat("a", 55)},
		{many(of("a"), 56), "\xf8\x38" + strings.Repeat("a", 56)},
		{many(of("a"), 256), "\xf9\x01\x00" + strings.Repeat("a", 256)},
		{many(list(), 3997), "\xf9\x0f\x9d" + strings.Repeat("\xc0", 3997)},
		{lists(8), "\xc7\xc6\xc5\xc4\xc3\xc2\xc1\xc0"},
	}
}

// TestEncode is for P8.1: the chapter's examples, and what others have told.
func TestEncode(t *testing.T) {
	for _, c := range told() {
		encoded(t, c.item, c.want, api.OK)
	}
	for _, x := range some() {
		encoded(t, x, plainWritten(x), api.OK)
	}
}

// TestEncodeNil is for P8.1: a list of no kids is one, be it nil or not, and
// bytes may have such a list.
func TestEncodeNil(t *testing.T) {
	for _, kids := range [][]api.Item{nil, {}, make([]api.Item, 0, 5)} {
		encoded(t, api.Item{List: true, Kids: kids}, "\xc0", api.OK)
		encoded(t, api.Item{Kids: kids}, "\x80", api.OK)
		encoded(t, api.Item{Bytes: "dog", Kids: kids}, "\x83dog", api.OK)
		encoded(t, list(api.Item{Bytes: "a", Kids: kids}), "\xc1a", api.OK)
	}
}

// TestEncodeSingle is for P8.1: each byte alone.
func TestEncodeSingle(t *testing.T) {
	for b := range 256 {
		one := string([]byte{byte(b)})
		want := one
		if b >= 0x80 {
			want = "\x81" + one
		}
		encoded(t, of(one), want, api.OK)
		encoded(t, list(of(one), of(one)), string([]byte{byte(0xC0 + 2*len(want))})+want+want, api.OK)
	}
}

// TestEncodeSizes is for P8.1: bytes and lists of all lengths, up to the
// longest, and some behind it.
func TestEncodeSizes(t *testing.T) {
	whole := text(4010)
	for size := range len(whole) {
		for _, x := range []api.Item{of(whole[:size]), list(of(whole[:size])), list(of("a"), of(whole[:size]), list())} {
			want, errno := plainEncode(x)
			encoded(t, x, want, errno)
		}
	}
	for _, row := range [][]api.Item{many(of("b"), 3999).Kids, many(list(of("b")), 1999).Kids} {
		for size := range row {
			want, errno := plainEncode(list(row[:size]...))
			encoded(t, list(row[:size]...), want, errno)
		}
	}
}

// TestEncodeLong is for P8.1: 4000 bytes, and one more; and such as have very
// many, in an item or in all.
func TestEncodeLong(t *testing.T) {
	for _, c := range kinds(3997) {
		encoded(t, of(c), "\xb9\x0f\x9d"+c, api.OK)
		encoded(t, list(of(c[:3994])), "\xf9\x0f\x9d\xb9\x0f\x9a"+c[:3994], api.OK)
	}
	for _, c := range kinds(3998) {
		encoded(t, of(c), "", api.ErrLong)
		encoded(t, list(of(c[:3995])), "", api.ErrLong)
		encoded(t, list(of(c[:3993]), of("ab")), "", api.ErrLong)
	}
	huge := strings.Repeat("h", 1<<24)
	for _, x := range []api.Item{
		many(of("a"), 3998), many(of("a"), 3999), many(list(), 3998), many(list(), 3999), many(of("\x80"), 1999),
		of(huge), list(of(huge)), many(of(huge), 3999), nested(many(of(huge), 3992), 7), nested(of(huge[:3997]), 7),
		of(huge[:65535]), of(huge[:65536]), of(huge[:65537]), many(of(huge[:4096]), 16), many(of(huge[:65536]), 256),
	} {
		encoded(t, x, "", api.ErrLong)
	}
}

// TestEncodeDeep is for P8.1: lists of each depth, alone and at each place.
func TestEncodeDeep(t *testing.T) {
	for deep := 1; deep <= 60; deep++ {
		items := []api.Item{lists(deep), nested(of(""), deep), nested(of("dog"), deep)}
		if deep > 1 {
			items = append(items, list(lists(deep-1), of("a")), list(of("a"), lists(deep-1)), list(list(), lists(deep-1), list()))
		}
		for _, x := range items {
			if deep > 8 {
				encoded(t, x, "", api.ErrDeep)
			} else {
				encoded(t, x, plainWritten(x), api.OK)
			}
		}
	}
	// A list that is deeper tells, though another one is longer, or too long.
	for _, x := range []api.Item{
		lists(4000), nested(of("a"), 3999), list(of(text(5000)), lists(8)), list(lists(8), of(text(5000))),
		nested(of(text(4000)), 9), nested(many(of("a"), 3000), 8), nested(many(list(), 3000), 8), many(lists(8), 499),
	} {
		encoded(t, x, "", api.ErrDeep)
	}
}

// TestEncodeMixed is for P8.1: what is neither bytes nor a list, alone and at
// each place, also where there is a later error.
func TestEncodeMixed(t *testing.T) {
	for _, x := range mixed() {
		encoded(t, x, "", api.ErrArg)
		for deep := range 20 {
			encoded(t, nested(x, deep), "", api.ErrArg)
			encoded(t, list(nested(x, deep), of(text(deep))), "", api.ErrArg)
			encoded(t, list(of("a"), list(), nested(x, deep)), "", api.ErrArg)
			encoded(t, list(of("a"), nested(x, deep), list()), "", api.ErrArg)
		}
		for _, y := range []api.Item{of(text(5000)), lists(9), lists(3000), many(of("a"), 3900), many(of(""), 5000)} {
			encoded(t, list(x, y), "", api.ErrArg)
			encoded(t, list(y, x), "", api.ErrArg)
		}
	}
	encoded(t, api.Item{List: true, Bytes: text(5000)}, "", api.ErrArg)
	encoded(t, api.Item{Kids: lists(20).Kids}, "", api.ErrArg)
}

// TestEncodeMany is for P8.1: 4000 items, and one more, however they stand.
func TestEncodeMany(t *testing.T) {
	encoded(t, many(of("a"), 3999), "", api.ErrLong)
	encoded(t, many(of("a"), 4000), "", api.ErrArg)
	encoded(t, many(list(), 3999), "", api.ErrLong)
	encoded(t, many(list(), 4000), "", api.ErrArg)
	encoded(t, list(many(of(""), 1999), many(of(""), 1998)), "", api.ErrLong)
	encoded(t, list(many(of(""), 1999), many(of(""), 1999)), "", api.ErrArg)
	encoded(t, list(of(text(5000)), many(of(""), 3997)), "", api.ErrLong)
	encoded(t, list(of(text(5000)), many(of(""), 3998)), "", api.ErrArg)
	encoded(t, many(list(of("")), 1999), "", api.ErrLong)
	encoded(t, many(list(of("")), 2000), "", api.ErrArg)
	for _, deep := range []int{4000, 3999, 3998, 9} {
		encoded(t, lists(deep), "", api.ErrDeep)
	}
	for _, deep := range []int{4001, 4002, 5000, 1 << 16} {
		encoded(t, lists(deep), "", api.ErrArg)
		encoded(t, nested(of(text(5000)), deep-1), "", api.ErrArg)
	}
	encoded(t, nested(many(of(""), 3000), 999), "", api.ErrDeep)
	encoded(t, nested(many(of(""), 3000), 1000), "", api.ErrArg)
	encoded(t, many(of(""), 1<<20), "", api.ErrArg)
}

// TestEncodeShared is for P8.1 and P1: items that share kids have more of them
// than anybody could go through.
func TestEncodeShared(t *testing.T) {
	x := of("a")
	for range 200 {
		x = list(x, x, x)
	}
	encoded(t, x, "", api.ErrArg)
	encoded(t, nested(x, 100), "", api.ErrArg)
	row := many(of("a"), 2000)
	encoded(t, list(row), "\xf9\x07\xd3\xf9\x07\xd0"+strings.Repeat("a", 2000), api.OK)
	encoded(t, list(row, row), "", api.ErrArg)
}

// TestNumber is for P8.3: a number's bytes, and the way back.
func TestNumber(t *testing.T) {
	cases := []struct {
		n    uint64
		want string
	}{
		{0, ""}, {1, "\x01"}, {15, "\x0f"}, {127, "\x7f"}, {128, "\x80"}, {255, "\xff"}, {256, "\x01\x00"},
		{1024, "\x04\x00"}, {65535, "\xff\xff"}, {65536, "\x01\x00\x00"}, {0x0102030405060708, "\x01\x02\x03\x04\x05\x06\x07\x08"},
		{0xF0E1D2C3, "\xf0\xe1\xd2\xc3"}, {1 << 32, "\x01\x00\x00\x00\x00"}, {1 << 63, "\x80" + strings.Repeat("\x00", 7)},
		{1<<64 - 1, strings.Repeat("\xff", 8)}, {1<<56 - 1, strings.Repeat("\xff", 7)}, {1 << 56, "\x01" + strings.Repeat("\x00", 7)},
	}
	for _, c := range cases {
		if got := rlp.Number(c.n); !same(got, of(c.want)) {
			t.Errorf("Number(%d) = %s, not of %x", c.n, shown(got), c.want)
		}
		if got, e := rlp.Value(of(c.want)); got != c.n || e != api.OK {
			t.Errorf("Value of %x = %d, %d, not %d", c.want, got, e, c.n)
		}
	}
}

// TestNumberValue is for P8.3: numbers of all lengths, there and back, and
// written between.
func TestNumberValue(t *testing.T) {
	source := rand.New(rand.NewPCG(8, 3))
	for i := range uint64(70000) {
		for _, n := range []uint64{i, source.Uint64() >> source.UintN(64), 1<<(i%64) - i%3} {
			x := rlp.Number(n)
			if got, e := rlp.Value(x); got != n || e != api.OK {
				t.Fatalf("Value of Number(%d) = %d, %d", n, got, e)
			}
			if x.List || len(x.Kids) > 0 || len(x.Bytes) > 8 || strings.HasPrefix(x.Bytes, "\x00") {
				t.Fatalf("Number(%d) = %s", n, shown(x))
			}
			if i%100 == 0 {
				encoded(t, x, plainWritten(x), api.OK)
			}
		}
	}
}

// TestValueForm is for P8.3: what has no number.
func TestValueForm(t *testing.T) {
	items := append(mixed(), list(), list(of("")), list(of("\x01")), lists(20), api.Item{List: true, Kids: []api.Item{}})
	for size := 1; size < 20; size++ {
		items = append(items, of(strings.Repeat("\x00", size)), of("\x00"+text(size)), of("\x00\x01"+text(size)))
	}
	for _, size := range []int{9, 10, 16, 32, 256, 264, 4000, 1 << 20} {
		items = append(items, of("\x01"+text(size-1)), of("\x00"+text(size-1)), of(strings.Repeat("\xff", size)))
	}
	for _, x := range items {
		if got, e := rlp.Value(x); got != 0 || e != api.ErrForm {
			t.Errorf("Value of %s = %d, %d", shown(x), got, e)
		}
	}
	if got, e := rlp.Value(api.Item{Bytes: "\x05", Kids: []api.Item{}}); got != 5 || e != api.OK {
		t.Errorf("Value of 5 with an empty list = %d, %d", got, e)
	}
}

// TestList is for P8.3: lists of none, of one and of many, also of such as may
// not be.
func TestList(t *testing.T) {
	if got := rlp.List(); !same(got, list()) {
		t.Errorf("List() = %s", shown(got))
	}
	if got := rlp.List(of("cat"), of("dog")); !same(got, list(of("cat"), of("dog"))) {
		t.Errorf("List of two = %s", shown(got))
	}
	for _, size := range []int{0, 1, 2, 17, 4000, 5000} {
		row := append(append(many(of("a"), size).Kids, some()...), mixed()...)
		for end := range min(len(row), 20) {
			if got := rlp.List(row[end:]...); !same(got, list(row[end:]...)) {
				t.Errorf("List of %d is another one", len(row)-end)
			}
		}
	}
	if got := rlp.List(nil...); !same(got, list()) {
		t.Errorf("List of nil = %s", shown(got))
	}
}

// TestAlone is for P8.1 to P8.3, and R1 and R4: what was answered is not what a
// later change of an argument changes, and no call changes one.
func TestAlone(t *testing.T) {
	row := []api.Item{of("a"), list(of("b")), of("c")}
	x := rlp.List(row...)
	y := rlp.List(row[:2]...)
	if row = append(row[:2], of("d")); !same(y, list(of("a"), list(of("b")))) {
		t.Errorf("a list is now %s", shown(y))
	}
	row[0] = of("e")
	if want := list(of("a"), list(of("b")), of("c")); !same(x, want) {
		t.Errorf("a list is now %s", shown(x))
	}
	y.Kids = append(y.Kids, of("f"))
	if !same(row[2], of("d")) {
		t.Errorf("an argument is now %s", shown(row[2]))
	}
	for _, x := range some() {
		before := plainWritten(x)
		first, _ := rlp.Encode(x)
		back, _ := rlp.Decode(first)
		other, _ := rlp.Decode(first)
		spoil(other)
		rlp.Encode(mixed()[0])
		rlp.Decode("\xc1")
		if again, _ := rlp.Encode(x); again != first || plainWritten(x) != before || !same(back, x) {
			t.Errorf("a second call answers another thing than %.20x", first)
		}
	}
}

// spoil changes all lists in an item.
func spoil(x api.Item) {
	for i, kid := range x.Kids {
		spoil(kid)
		x.Kids[i] = of("spoilt")
	}
}

func BenchmarkEncode(b *testing.B) {
	x := list(many(of(text(32)), 17), rlp.Number(1<<40), list(of(text(20)), of("a")))
	for b.Loop() {
		rlp.Encode(x)
	}
}
