package frame_test

import (
	"math/rand/v2"
	"slices"
	"strings"
	"testing"

	"ecclesia/api"
	"ecclesia/frame"
	"ecclesia/rlp"
)

// read holds what Read answers against what is wanted, and that what is read,
// written, is the bytes.
func read(t *testing.T, form, s string, want []api.Field, errno api.Errno) {
	t.Helper()
	got, e := frame.Read(form, s)
	if !same(got, want) || e != errno {
		t.Errorf("Read of %.50q, %d bytes %.20x answers %s, %d, not %s, %d", form, len(s), s, shown(got), e, shown(want), errno)
	}
	if e != api.OK {
		return
	}
	if back, e := frame.Write(form, got); back != s || e != api.OK {
		t.Errorf("%.20x, read by %.50q, is written %.20x, %d", s, form, back, e)
	}
}

// unread holds that bytes are refused.
func unread(t *testing.T, form, s string, errno api.Errno) {
	t.Helper()
	read(t, form, s, nil, errno)
}

// readPlainly holds what Read answers against what the chapter says.
func readPlainly(t *testing.T, form, s string) api.Errno {
	t.Helper()
	want, errno := plainRead(form, s)
	read(t, form, s, want, errno)
	return errno
}

// TestRead is for P11.1: records, each by its form and by those of others.
func TestRead(t *testing.T) {
	for _, c := range told() {
		read(t, c.form, c.want, c.fields, api.OK)
		for _, other := range told() {
			readPlainly(t, other.form, c.want)
		}
	}
	unread(t, "nn", "\xc4\x05\xc2\x01\x02", api.ErrForm)
}

// TestReadForms is for P11.1: records of all kinds of fields, by forms of one
// kind, alone and within others.
func TestReadForms(t *testing.T) {
	kinds := []string{"n", "h", "a", "s", "b", "()", "(n)", "(nn)", "(b)", "(())", "*n", "*b", "*a", "*()", "**n", "*(n)"}
	texts := []string{"", "\x00", "\x01", "\x7f", "\x80", "\x00\x01", "\x01\x00", x(7), x(8), x(9), x(19), x(20), x(21), x(31), x(32), x(33), x(63), x(64), x(65), x(66), x(600)}
	texts = append(texts, "\x00"+x(7), "\x00"+x(6), strings.Repeat("\x00", 8), strings.Repeat("\xff", 8), strings.Repeat("\xff", 9), strings.Repeat("\x00", 20), strings.Repeat("\x00", 32))
	items := []api.Item{rlp.List(), rlp.List(rlp.List()), rlp.List(rlp.List(), rlp.List())}
	for _, one := range texts {
		item := api.Item{Bytes: one}
		items = append(items, item, rlp.List(item), rlp.List(item, item), rlp.List(rlp.List(item)), rlp.List(item, rlp.List()))
	}
	count := map[api.Errno]int{}
	for _, kind := range kinds {
		for _, item := range items {
			for _, c := range []struct {
				form string
				item api.Item
			}{
				{kind, rlp.List(item)}, {kind, item}, {kind, rlp.List(item, item)}, {kind + kind, rlp.List(item, item)},
				{"*" + kind, rlp.List(rlp.List(item, item))}, {"(" + kind + ")", rlp.List(rlp.List(item))}, {"n" + kind + "b", rlp.List(rlp.Number(3), item, rlp.Number(4))},
			} {
				s, _ := rlp.Encode(c.item)
				count[readPlainly(t, c.form, s)]++
			}
		}
	}
	if count[api.OK] < 200 || count[api.ErrForm] < 2000 {
		t.Errorf("%v", count)
	}
}

// TestReadOrder is for P11.1: a form that may not be tells ahead of all else,
// what rlp.Decode tells ahead of what does not fit.
func TestReadOrder(t *testing.T) {
	deep := "\xc0"
	for i := range 8 {
		deep = string([]byte{byte(0xC1 + i)}) + deep
	}
	long := "\xf9\x0f\x9e" + strings.Repeat("a", 0xF9E)
	for _, form := range []string{"", "n", "b", "*n", "(n)", "()", "*n*n", "****n", "((((n))))", strings.Repeat("n", 40)} {
		unread(t, form, "", api.ErrForm)
		unread(t, form, "\xc1", api.ErrForm)
		unread(t, form, "\xff", api.ErrForm)
		unread(t, form, "\xc2\x81\x05", api.ErrForm)
		unread(t, form, "\xc0\xc0", api.ErrForm)
		unread(t, form, deep, api.ErrDeep)
		unread(t, form, deep+"\x00", api.ErrForm)
		unread(t, form, deep[1:], api.ErrForm)
		unread(t, form, long, api.ErrLong)
		unread(t, form, long[:4000], api.ErrForm)
		unread(t, form, strings.Repeat("\xc0", 4001), api.ErrLong)
		unread(t, form, x(1<<20), api.ErrLong)
	}
	for _, form := range []string{"*", "(n", "x", "*****n", "((((()))))", "n)", strings.Repeat("n", 41)} {
		for _, s := range []string{"", "\xc0", "\xc1\x01", "\xff", deep, long} {
			unread(t, form, s, api.ErrArg)
		}
	}
}

// TestReadShort is for P11.1 and P11.2: all texts of up to two bytes, and those
// of three of each kind, by some forms.
func TestReadShort(t *testing.T) {
	edges := []byte{0, 1, 0x7F, 0x80, 0x81, 0x82, 0x83, 0xB7, 0xB8, 0xC0, 0xC1, 0xC2, 0xC3, 0xF7, 0xF8, 0xFF}
	for _, form := range []string{"", "n", "b", "()", "*n", "*b", "*()", "nb", "(n)", "**n"} {
		readPlainly(t, form, "")
		for first := range 256 {
			readPlainly(t, form, string([]byte{byte(first)}))
			for second := range 256 {
				readPlainly(t, form, string([]byte{byte(first), byte(second)}))
			}
			for _, second := range edges {
				for _, third := range edges {
					readPlainly(t, form, string([]byte{byte(first), second, third}))
				}
			}
		}
	}
}

// TestReadMany is for P11.1: 40 fields of *, and 41; 1000 fields, all together,
// and more.
func TestReadMany(t *testing.T) {
	for _, form := range []string{"*n", "*()", "*b", "**n"} {
		for size := range 300 {
			s := plainWritten("(*"+form[1:]+")", l(l(make([]api.Field, min(size, 40))...)))
			if size > 40 {
				kid := plainWritten(form[1:], api.Field{})
				s = plainHead(0xC0, plainHead(0xC0, strings.Repeat(kid, size)))
			}
			if errno := readPlainly(t, form, s); (errno == api.OK) != (size <= 40) {
				t.Errorf("%d fields of %q: %d", size, form, errno)
			}
		}
	}
	for count := 980; count < 1030; count++ {
		s := plainWritten("(**n)", l(filled(n(1), count-1)))
		if errno := readPlainly(t, "**n", s); (errno == api.OK) != (count <= 1000) {
			t.Errorf("%d fields: %d", count, errno)
		}
		s = plainWritten("(h(**n)*a)", l(b(x(32)), l(filled(n(1), count-5)), l(b(x(20)))))
		if errno := readPlainly(t, "h(**n)*a", s); (errno == api.OK) != (count <= 1000) {
			t.Errorf("%d fields within: %d", count, errno)
		}
	}
	unread(t, "****n", "\xf9\x0f\x9d"+strings.Repeat("\xc0", 3997), api.ErrForm)
	unread(t, "*n", "\xf9\x0f\x9d\xf9\x0f\x9a"+strings.Repeat("a", 3994), api.ErrForm)
	unread(t, "b", "\xf9\x0f\x9d\xb9\x0f\x9a"+strings.Repeat("a", 3994), api.ErrForm)
}

// TestReadKids is for P11.1: as many fields as a form has kinds, and more, or
// fewer.
func TestReadKids(t *testing.T) {
	for kinds := range 38 {
		for size := range 45 {
			inside := strings.Repeat("\x05", size)
			for form, s := range map[string]string{
				strings.Repeat("n", kinds):             plainHead(0xC0, inside),
				"(" + strings.Repeat("b", kinds) + ")": plainHead(0xC0, plainHead(0xC0, inside)),
			} {
				if errno := readPlainly(t, form, s); (errno == api.OK) != (size == kinds) {
					t.Errorf("%d fields of %q: %d", size, form, errno)
				}
			}
		}
	}
}

// TestReadLong is for P11.2: a record of 4000 bytes.
func TestReadLong(t *testing.T) {
	fields := []api.Field{l(many(b(x(65)), 40)...), l(many(b(x(65)), 19)...), b(x(36)), n(1)}
	s := plainWritten("(*s*sbn)", l(fields...))
	if len(s) != 4000 {
		t.Fatalf("%d bytes", len(s))
	}
	read(t, "*s*sbn", s, fields, api.OK)
	unread(t, "*s*sbb*n", s, api.ErrForm)
}

// TestTurned is for P11.1 and P11.2: records with a few bytes turned, taken out
// or laid between, and records of other forms.
func TestTurned(t *testing.T) {
	source := rand.New(rand.NewPCG(11, 1))
	count := map[api.Errno]int{}
	for range 20000 {
		form := madeForm(source, 4, 40)
		s, errno := plainWrite(form, madeFields(source, form, 6))
		if errno != api.OK {
			continue
		}
		readPlainly(t, form, s)
		readPlainly(t, madeForm(source, 4, 40), s)
		made := []byte(s)
		for range 1 + source.IntN(2) {
			at := source.IntN(min(len(made), 12) + 1)
			switch kind := source.IntN(4); {
			case at == len(made) || kind == 0:
				made = slices.Insert(made, at, byte(source.UintN(256)))
			case kind == 1 && len(made) > 1:
				made = slices.Delete(made, at, at+1)
			case kind == 2:
				made[at]++
			default:
				made[at] ^= byte(1 << source.UintN(8))
			}
		}
		count[readPlainly(t, form, string(made))]++
	}
	for _, errno := range []api.Errno{api.OK, api.ErrForm} {
		if count[errno] < 500 {
			t.Errorf("%d texts are told %d", count[errno], errno)
		}
	}
}

// FuzzRead is for P11.1 and P11.2: any form, and any bytes at all.
func FuzzRead(f *testing.F) {
	for _, c := range told() {
		f.Add(c.form, c.want)
	}
	f.Fuzz(func(t *testing.T, form, s string) {
		right(t, form, plainRight(form))
		readPlainly(t, form, s)
	})
}
