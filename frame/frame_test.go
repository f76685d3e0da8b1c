package frame_test

import (
	"math/rand/v2"
	"slices"
	"strings"
	"testing"

	"ecclesia/api"
	"ecclesia/frame"
)

// x is so many bytes.
func x(size int) string { return strings.Repeat("x", size) }

// n, b and l are fields: a number, bytes, and fields.
func n(number uint64) api.Field { return api.Field{N: number} }

func b(text string) api.Field { return api.Field{B: text} }

func l(fields ...api.Field) api.Field { return api.Field{L: fields} }

// many is a field, so many times.
func many(f api.Field, times int) []api.Field { return slices.Repeat([]api.Field{f}, times) }

// wrote holds what Write answers against what is wanted, and that what is written
// is read again.
func wrote(t *testing.T, form string, fields []api.Field, want string, errno api.Errno) {
	t.Helper()
	got, e := frame.Write(form, fields)
	if got != want || e != errno {
		t.Errorf("Write of %.50q, %s answers %.20x, %d, not %.20x, %d", form, shown(fields), got, e, want, errno)
	}
	if e != api.OK {
		return
	}
	if back, e := frame.Read(form, got); !same(back, fields) || e != api.OK {
		t.Errorf("%.50q, %s, written, is read %s, %d", form, shown(fields), shown(back), e)
	}
}

// wrotePlainly holds what Write answers against what the chapter says.
func wrotePlainly(t *testing.T, form string, fields []api.Field) api.Errno {
	t.Helper()
	want, errno := plainWrite(form, fields)
	wrote(t, form, fields, want, errno)
	return errno
}

// right holds what Right answers against what is wanted: if a form may not be,
// nothing is written or read by it.
func right(t *testing.T, form string, want bool) {
	t.Helper()
	if got := frame.Right(form); got != want {
		t.Errorf("Right of %d signs %.50q: %t", len(form), form, got)
	}
	_, e := frame.Write(form, nil)
	if _, again := frame.Read(form, "\xc0"); !want && (e != api.ErrArg || again != api.ErrArg) {
		t.Errorf("%.50q may not be, but Write and Read of it answer %d, %d", form, e, again)
	}
}

// TestRight is for P11.1: forms that may be, and such as may not.
func TestRight(t *testing.T) {
	for _, form := range []string{
		"", "n", "h", "a", "s", "b", "nhasb", "()", "*n", "*()", "(())", "()()", "(n)", "(n(a))", "n*n", "*(hs)", "*n*n*n*n*n*n",
		"hnhhab*abnn*s", "bnh*a", "****n", "***(n)", "(((())))", "((((n))))", "*(*(n))", "****nn****n", "((((n))n)(()))n*h", "(*n)*n",
	} {
		right(t, form, true)
	}
	for _, form := range []string{
		"*", "(", ")", "x", "N", "nn ", " n", "n\x00", "n\n", "é", "n*", "*)", "(*)", "*n*", "**", "(n", "n)", "())", "(()", ")(", "n(", "(n))n(",
		"*(n", "[n]", "n+", "0", "n,n", "*n)", "(*n", "*(*)", "\xff", "(n\x80)", "nhasbc", "g", "i", "m", "o", "r", "t", "+", "'",
	} {
		right(t, form, false)
	}
}

// TestRightShort is for P11.1: all forms of some length.
func TestRightShort(t *testing.T) {
	count := 0
	for _, c := range []struct {
		signs string
		most  int
	}{{"n(*)", 9}, {"nhasb(*)x", 5}} {
		rows := []string{""}
		for range c.most {
			var longer []string
			for _, form := range rows {
				for _, sign := range c.signs {
					longer = append(longer, form+string(sign))
				}
			}
			rows = longer
			for _, form := range rows {
				is := plainRight(form)
				if got := frame.Right(form); got != is {
					t.Errorf("Right of %q: %t", form, got)
				}
				if is {
					count++
				}
			}
		}
	}
	for first := range 256 {
		for second := range 256 {
			form := string([]byte{byte(first), byte(second)})
			right(t, form, plainRight(form))
		}
	}
	if count < 10000 {
		t.Errorf("%d forms may be", count)
	}
}

// TestRightLong is for P11.1: forms of 40 signs, and of more.
func TestRightLong(t *testing.T) {
	for _, size := range []int{38, 39, 40, 41, 42, 43, 44, 80, 255, 256, 257, 296, 1 << 20} {
		for _, form := range []string{strings.Repeat("n", size), "(" + strings.Repeat("n", size-2) + ")", strings.Repeat("n", size-5) + "****n"} {
			right(t, form, size <= 40)
		}
		right(t, strings.Repeat("(", size), false)
		right(t, strings.Repeat("*", size), false)
		right(t, strings.Repeat("n", size-1)+"*", false)
		right(t, strings.Repeat("*n", size/2), size <= 40 || size == 41)
		right(t, strings.Repeat("()", size/2), size <= 40 || size == 41)
		right(t, strings.Repeat("(n", size/2)+strings.Repeat(")", size/2), false)
		if size > 42 {
			wrote(t, strings.Repeat("n", size), many(n(1), size), "", api.ErrArg)
		}
	}
	wrotePlainly(t, strings.Repeat("n", 40), many(n(1), 40))
	wrote(t, strings.Repeat("n", 41), many(n(1), 41), "", api.ErrArg)
}

// TestRightOpen is for P11.1: four kinds that are open, and five, of ( and of *
// in each order, wherever they stand.
func TestRightOpen(t *testing.T) {
	for open := range 8 {
		for order := range 1 << open {
			start, end := "", ""
			for i := range open {
				if order>>i&1 == 1 {
					start += "*"
				} else {
					start, end = start+"(", ")"+end
				}
			}
			for _, form := range []string{start + "n" + end, start + "()" + end, start + "*n" + end, "n" + start + "h" + end + "*b"} {
				right(t, form, plainRight(form))
			}
			right(t, start+"n"+end, open <= 4)
			right(t, start+"n"+end+start+"a"+end, open <= 4)
			right(t, start+"*b"+end, open <= 3)
			right(t, start+"()"+end, open <= 3)
			right(t, start, open == 0)
		}
	}
}

// told are forms, fields and their records.
func told() []struct {
	form   string
	fields []api.Field
	want   string
} {
	return []struct {
		form   string
		fields []api.Field
		want   string
	}{
		{"n*n", []api.Field{n(5), l(n(1), n(2))}, "\xc4\x05\xc2\x01\x02"},
		{"", nil, "\xc0"},
		{"", []api.Field{}, "\xc0"},
		{"n", []api.Field{n(0)}, "\xc1\x80"},
		{"n", []api.Field{n(5)}, "\xc1\x05"},
		{"n", []api.Field{n(127)}, "\xc1\x7f"},
		{"n", []api.Field{n(128)}, "\xc2\x81\x80"},
		{"n", []api.Field{n(1024)}, "\xc3\x82\x04\x00"},
		{"n", []api.Field{n(1<<64 - 1)}, "\xc9\x88" + strings.Repeat("\xff", 8)},
		{"b", []api.Field{b("")}, "\xc1\x80"},
		{"b", []api.Field{b("\x00")}, "\xc1\x00"},
		{"b", []api.Field{b("\x05")}, "\xc1\x05"},
		{"b", []api.Field{b("\x80")}, "\xc2\x81\x80"},
		{"b", []api.Field{b("dog")}, "\xc4\x83dog"},
		{"b", []api.Field{b("\x00\x00")}, "\xc3\x82\x00\x00"},
		{"b", []api.Field{b(x(55))}, "\xf8\x38\xb7" + x(55)},
		{"b", []api.Field{b(x(64))}, "\xf8\x42\xb8\x40" + x(64)},
		{"h", []api.Field{b(x(32))}, "\xe1\xa0" + x(32)},
		{"a", []api.Field{b(x(20))}, "\xd5\x94" + x(20)},
		{"s", []api.Field{b(x(65))}, "\xf8\x43\xb8\x41" + x(65)},
		{"()", []api.Field{{}}, "\xc1\xc0"},
		{"*n", []api.Field{{}}, "\xc1\xc0"},
		{"*n", []api.Field{{L: []api.Field{}}}, "\xc1\xc0"},
		{"*()", []api.Field{l(api.Field{}, api.Field{})}, "\xc3\xc2\xc0\xc0"},
		{"n()b", []api.Field{n(0), {}, b("")}, "\xc3\x80\xc0\x80"},
		{"(n(a))", []api.Field{l(n(7), l(b(x(20))))}, "\xd8\xd7\x07\xd5\x94" + x(20)},
		{"*(nb)", []api.Field{l(l(n(1), b("a")), l(n(2), b("bc")))}, "\xc9\xc8\xc2\x01a\xc4\x02\x82bc"},
		{"****n", []api.Field{l(l(l(l(n(7)))))}, "\xc5\xc4\xc3\xc2\xc1\x07"},
		{"****n", []api.Field{{}}, "\xc1\xc0"},
		{"((((n))))n", []api.Field{l(l(l(l(n(7))))), n(8)}, "\xc6\xc4\xc3\xc2\xc1\x07\x08"},
		{"*nn", []api.Field{l(n(1), n(2)), n(3)}, "\xc4\xc2\x01\x02\x03"},
		{"**nn", []api.Field{l(l(n(1)), api.Field{}, l(n(2), n(3))), n(4)}, "\xc8\xc6\xc1\x01\xc0\xc2\x02\x03\x04"},
		{"bn", []api.Field{b("tx"), n(300)}, "\xc6\x82tx\x82\x01\x2c"},
	}
}

// TestWrite is for P11.1 and P11.2: the chapter's example, and records that are
// written out.
func TestWrite(t *testing.T) {
	for _, c := range told() {
		wrote(t, c.form, c.fields, c.want, api.OK)
	}
}

// TestWriteFits is for P11.1: fields of all kinds, held against each kind.
func TestWriteFits(t *testing.T) {
	fields := []api.Field{{}, n(1), n(1 << 63), n(1<<64 - 1), l(n(1)), l(api.Field{}), l(b("a")), l(api.Field{}, api.Field{}), l(l()), l(l(n(2))), l(l(l()))}
	for _, size := range []int{1, 2, 8, 19, 20, 21, 31, 32, 33, 63, 64, 65, 66, 67, 276, 288, 321, 4000, 1 << 20} {
		fields = append(fields, b(x(size)), l(b(x(size))))
	}
	for _, size := range []int{39, 40, 41, 42, 296, 1000, 1001, 5000} {
		fields = append(fields, api.Field{L: make([]api.Field, size)}, api.Field{L: many(b(x(20)), size)})
	}
	for _, f := range slices.Clone(fields) {
		fields = append(fields, api.Field{N: 1, B: f.B, L: f.L}, api.Field{N: f.N, B: "a", L: f.L}, api.Field{N: f.N, B: f.B, L: []api.Field{{}}},
			api.Field{B: x(20), L: f.L}, api.Field{B: x(32), L: f.L}, api.Field{B: x(65), L: f.L})
	}
	forms := []string{"n", "h", "a", "s", "b", "()", "(n)", "(b)", "(a)", "(nn)", "(())", "((n))", "*n", "*b", "*a", "*()", "**n", "*(n)", "***n"}
	count := map[api.Errno]int{}
	for _, form := range forms {
		for _, f := range fields {
			count[wrotePlainly(t, form, []api.Field{f})]++
			wrotePlainly(t, "n"+form+"b", []api.Field{n(9), f, b("z")})
			wrotePlainly(t, "*"+form, []api.Field{l(f)})
			wrotePlainly(t, "*"+form, []api.Field{l(f, f)})
			wrotePlainly(t, "("+form+")", []api.Field{l(f)})
		}
	}
	if count[api.OK] < 80 || count[api.ErrArg] < 1000 {
		t.Errorf("%v", count)
	}
}

// TestWriteSizes is for P11.1: of each kind, bytes of each size.
func TestWriteSizes(t *testing.T) {
	for kind, may := range map[string]func(size int) bool{
		"n": func(size int) bool { return size == 0 },
		"h": func(size int) bool { return size == 32 },
		"a": func(size int) bool { return size == 20 },
		"s": func(size int) bool { return size == 65 },
		"b": func(size int) bool { return size <= 64 },
	} {
		for size := range 400 {
			if _, e := frame.Write(kind, []api.Field{b(x(size))}); (e == api.OK) != may(size) {
				t.Errorf("%s of %d bytes: %d", kind, size, e)
			}
			if _, e := frame.Write("n*(b"+kind+")", []api.Field{n(1), l(l(b("c"), b(x(size))))}); (e == api.OK) != may(size) {
				t.Errorf("%s of %d bytes, within: %d", kind, size, e)
			}
		}
	}
}

// TestWriteMany is for P11.1: as many fields as a form has kinds, and more, or
// fewer; 40 fields of *, and 41.
func TestWriteMany(t *testing.T) {
	for kinds := range 40 {
		for size := range 45 {
			errno := api.ErrArg
			if size == kinds {
				errno = api.OK
			}
			for _, c := range []struct {
				form   string
				fields []api.Field
			}{{strings.Repeat("n", kinds), many(n(3), size)}, {"(" + strings.Repeat("b", min(kinds, 38)) + ")", []api.Field{l(many(b(""), size)...)}}} {
				if kinds == 39 && c.form[0] == '(' {
					continue
				}
				if got := wrotePlainly(t, c.form, c.fields); got != errno {
					t.Errorf("%d fields of %q: %d", size, c.form, got)
				}
			}
		}
	}
	for size := range 300 {
		errno := api.ErrArg
		if size <= 40 {
			errno = api.OK
		}
		for _, got := range []api.Errno{
			wrotePlainly(t, "*n", []api.Field{l(many(n(3), size)...)}),
			wrotePlainly(t, "n*()n", []api.Field{n(1), l(many(l(), size)...), n(2)}),
			wrotePlainly(t, "**b", []api.Field{l(l(), l(many(b("a"), size)...), l())}),
			wrotePlainly(t, "(n*a)", []api.Field{l(n(4), l(many(b(x(20)), size)...))}),
		} {
			if got != errno {
				t.Errorf("%d fields of *: %d", size, got)
			}
		}
	}
}

// filled is a field of lists of some field, with so many fields in it, all
// together.
func filled(one api.Field, count int) api.Field {
	var f api.Field
	for count > 0 {
		size := min(count-1, 40)
		f.L = append(f.L, l(many(one, size)...))
		count -= size + 1
	}
	return f
}

// TestWriteAll is for P11.1: 1000 fields, all together, and more; that these are
// too many tells ahead of a record that is too long.
func TestWriteAll(t *testing.T) {
	for count := 980; count < 1030; count++ {
		for _, c := range []struct {
			form   string
			fields []api.Field
			errno  api.Errno
		}{
			{"**n", []api.Field{filled(n(1), count-1)}, api.OK},
			{"*n**n", []api.Field{l(many(n(2), 40)...), filled(n(1), count-42)}, api.OK},
			{"**n*n", []api.Field{filled(n(1), count-42), l(many(n(2), 40)...)}, api.OK},
			{"n(**nb)h", []api.Field{n(7), l(filled(n(1), count-5), b("")), b(x(32))}, api.OK},
			{"((**n))", []api.Field{l(l(filled(n(1), count-3)))}, api.OK},
			{"**()", []api.Field{filled(l(), count-1)}, api.OK},
			{"**b", []api.Field{filled(b(x(64)), count-1)}, api.ErrLong},
		} {
			if plainCount(c.fields) != count {
				t.Fatalf("%d fields, not %d", plainCount(c.fields), count)
			}
			if count > 1000 {
				c.errno = api.ErrArg
			}
			if errno := wrotePlainly(t, c.form, c.fields); errno != c.errno {
				t.Errorf("%d fields of %q: %d, not %d", count, c.form, errno, c.errno)
			}
		}
	}
}

// TestWriteLong is for P11.1: records of 4000 bytes, and of more.
func TestWriteLong(t *testing.T) {
	for size := range 65 {
		fields := []api.Field{l(many(b(x(65)), 40)...), l(many(b(x(65)), 19)...), b(x(size))}
		errno := wrotePlainly(t, "*s*sb", fields)
		record := 3 + 3 + 40*67 + 3 + 19*67 + len(plainWritten("b", b(x(size))))
		if (errno == api.OK) != (record <= 4000) || errno != api.OK && errno != api.ErrLong {
			t.Errorf("a record of %d bytes: %d", record, errno)
		}
	}
	wrote(t, "*s*s", []api.Field{l(many(b(x(65)), 40)...), l(many(b(x(65)), 40)...)}, "", api.ErrLong)
	wrote(t, "*s*s", []api.Field{l(many(b(x(65)), 40)...), l(many(b(x(64)), 40)...)}, "", api.ErrArg)
	wrote(t, "*s*sn", []api.Field{l(many(b(x(65)), 40)...), l(many(b(x(65)), 40)...)}, "", api.ErrArg)
	wrote(t, "*s*sx", []api.Field{l(many(b(x(65)), 40)...), l(many(b(x(65)), 40)...)}, "", api.ErrArg)
}

// TestWriteShared is for P1 and P11.1: fields that share lists have more in them
// than anybody could go through.
func TestWriteShared(t *testing.T) {
	f := n(1)
	for range 200 {
		f = l(many(f, 40)...)
	}
	for _, form := range []string{"****n", "****(", "*n", "(n)", "((((n))))", "***(nnnn)", "", "n", strings.Repeat("*n", 20)} {
		wrote(t, form, []api.Field{f}, "", api.ErrArg)
		wrote(t, form, many(f, 20), "", api.ErrArg)
	}
	four := n(1)
	for range 4 {
		four = l(many(four, 40)...)
	}
	wrote(t, "****n", []api.Field{four}, "", api.ErrArg)
	wrote(t, strings.Repeat("****n", 8), many(four, 8), "", api.ErrArg)
	deep := n(1)
	for range 1 << 16 {
		deep = l(deep)
	}
	wrote(t, "((((n))))", []api.Field{deep}, "", api.ErrArg)
	wrote(t, "n", make([]api.Field, 1<<20), "", api.ErrArg)
	wrote(t, "*n", []api.Field{{L: make([]api.Field, 1<<20)}}, "", api.ErrArg)
	wrote(t, "b", []api.Field{b(x(1 << 24))}, "", api.ErrArg)
}

// spoil changes some field among fields.
func spoil(source *rand.Rand, fields []api.Field) []api.Field {
	if len(fields) == 0 || source.IntN(8) == 0 {
		switch at := source.IntN(len(fields) + 1); {
		case at < len(fields) && source.IntN(2) == 0:
			return slices.Delete(fields, at, at+1)
		default:
			return slices.Insert(fields, at, api.Field{N: source.Uint64N(2)})
		}
	}
	f := &fields[source.IntN(len(fields))]
	switch source.IntN(6) {
	case 0:
		f.N += source.Uint64N(3)
	case 1:
		f.B += x(source.IntN(3))
	case 2:
		f.B = f.B[min(len(f.B), source.IntN(3)):]
	default:
		f.L = spoil(source, f.L)
	}
	return fields
}

// TestBothWays is for P11.1 and P11.2: forms and fields of all kinds, and such
// with a thing changed.
func TestBothWays(t *testing.T) {
	source := rand.New(rand.NewPCG(11, 2))
	count := map[api.Errno]int{}
	for range 20000 {
		form := madeForm(source, 4, 40)
		right(t, form, true)
		fields := madeFields(source, form, 8)
		wrotePlainly(t, form, fields)
		count[wrotePlainly(t, form, spoil(source, clone(fields)))]++
		other := []byte(form + "n")
		other[source.IntN(len(other))] = "nhasb(*)x"[source.IntN(9)]
		right(t, string(other), plainRight(string(other)))
		wrotePlainly(t, string(other), fields)
	}
	for _, errno := range []api.Errno{api.OK, api.ErrArg} {
		if count[errno] < 1000 {
			t.Errorf("%d are told %d", count[errno], errno)
		}
	}
}

// TestAlone is for R1 and R4: no call changes an argument, and what was answered
// is not what a later change of one changes.
func TestAlone(t *testing.T) {
	for _, c := range told() {
		fields := clone(c.fields)
		record, _ := frame.Write(c.form, fields)
		first, _ := frame.Read(c.form, record)
		second, _ := frame.Read(c.form, record)
		if !same(fields, c.fields) {
			t.Errorf("fields of %q are now %s", c.form, shown(fields))
		}
		overwrite(first)
		overwrite(fields)
		if !same(second, c.fields) || record != c.want {
			t.Errorf("what was answered of %q is now %s, %x", c.form, shown(second), record)
		}
		wrote(t, c.form, second, record, api.OK)
	}
}

// TestAloneLists is for R4: no two lists of an answer share their room.
func TestAloneLists(t *testing.T) {
	fields := []api.Field{l(many(n(1), 3)...), l(many(n(2), 3)...), l(l(n(3)), l(n(4)), l())}
	record, _ := frame.Write("*n*n**n", fields)
	got, _ := frame.Read("*n*n**n", record)
	for _, list := range [][]api.Field{got[2].L[0].L, got[2].L[1].L, got[2].L[2].L, got[0].L, got[1].L, got[2].L, got} {
		overwrite(list[len(list):cap(list)])
	}
	if !same(got, fields) {
		t.Errorf("the answer is now %s", shown(got))
	}
}

// overwrite changes all fields, and those in them.
func overwrite(fields []api.Field) {
	for i, f := range fields {
		overwrite(f.L)
		fields[i] = api.Field{N: 99, B: "spoilt"}
	}
}

func BenchmarkWrite(b *testing.B) {
	fields := []api.Field{n(1), l(many(api.Field{B: x(65)}, 16)...), {B: x(32)}}
	for b.Loop() {
		frame.Write("n*sh", fields)
	}
}

func BenchmarkRead(b *testing.B) {
	record, _ := frame.Write("n*sh", []api.Field{n(1), l(many(api.Field{B: x(65)}, 16)...), {B: x(32)}})
	for b.Loop() {
		frame.Read("n*sh", record)
	}
}
