package frame_test

import (
	"encoding/binary"
	"fmt"
	"math/rand/v2"
	"regexp"
	"slices"
	"strings"

	"ecclesia/api"
	"ecclesia/rlp"
)

// What the chapter says, on the forms' own texts: which ones may be is told by a
// pattern, records are written byte by byte, and the way back holds each item
// against its kind.

// pattern is that of all forms, of any length.
var pattern = func() *regexp.Regexp {
	kind := "[nhasb]"
	for range 4 {
		kind = `(?:[nhasb]|\((?:` + kind + `)*\)|\*` + kind + `)`
	}
	return regexp.MustCompile(`\A(?:` + kind + `)*\z`)
}()

// plainRight says if a form may be.
func plainRight(form string) bool { return len(form) <= 40 && pattern.MatchString(form) }

// ahead is the first kind of a form that may be, and what is behind it.
func ahead(form string) (kind, rest string) {
	size, open := 0, 0
	for size == 0 || open > 0 || form[size-1] == '*' {
		open += strings.Count(form[size:size+1], "(") - strings.Count(form[size:size+1], ")")
		size++
	}
	return form[:size], form[size:]
}

// kindsOf is the kinds of a form that may be.
func kindsOf(form string) []string {
	var list []string
	for form != "" {
		var kind string
		kind, form = ahead(form)
		list = append(list, kind)
	}
	return list
}

// below is the kinds of so many fields in one of this kind, if it has so many.
func below(kind string, many int) ([]string, bool) {
	switch kind[0] {
	case '(':
		list := kindsOf(kind[1 : len(kind)-1])
		return list, len(list) == many
	case '*':
		return slices.Repeat([]string{kind[1:]}, many), many <= 40
	}
	return nil, many == 0
}

// plainSize says if bytes may have this size in a field of this kind.
func plainSize(kind string, size int) bool {
	switch kind[0] {
	case 'h':
		return size == 32
	case 'a':
		return size == 20
	case 's':
		return size == 65
	case 'b':
		return size <= 64
	}
	return size == 0
}

// plainFits says if a field fits a kind.
func plainFits(kind string, f api.Field) bool {
	kinds, is := below(kind, len(f.L))
	is = is && plainSize(kind, len(f.B)) && (kind[0] == 'n' || f.N == 0)
	for i := 0; is && i < len(f.L); i++ {
		is = plainFits(kinds[i], f.L[i])
	}
	return is
}

// plainCount is how many fields there are in some.
func plainCount(l []api.Field) int {
	count := len(l)
	for _, f := range l {
		count += plainCount(f.L)
	}
	return count
}

// plainHead is bytes behind their head.
func plainHead(first byte, s string) string {
	if len(s) < 56 {
		return string([]byte{first + byte(len(s))}) + s
	}
	count := strings.TrimLeft(string(binary.BigEndian.AppendUint64(nil, uint64(len(s)))), "\x00")
	return string([]byte{first + 55 + byte(len(count))}) + count + s
}

// plainWritten is the item of a field that fits a kind, written.
func plainWritten(kind string, f api.Field) string {
	s := f.B
	switch kind[0] {
	case '(', '*':
		kinds, _ := below(kind, len(f.L))
		for i, kid := range f.L {
			s += plainWritten(kinds[i], kid)
		}
		return plainHead(0xC0, s)
	case 'n':
		s = strings.TrimLeft(string(binary.BigEndian.AppendUint64(nil, f.N)), "\x00")
	}
	if len(s) == 1 && s[0] < 0x80 {
		return s
	}
	return plainHead(0x80, s)
}

// plainWrite is what Write answers.
func plainWrite(form string, l []api.Field) (string, api.Errno) {
	whole := api.Field{L: l}
	if !plainRight(form) || !plainFits("("+form+")", whole) || plainCount(l) > 1000 {
		return "", api.ErrArg
	}
	if s := plainWritten("("+form+")", whole); len(s) <= 4000 {
		return s, api.OK
	}
	return "", api.ErrLong
}

// plainField is the field of a kind that has this item, if there is one.
func plainField(kind string, x api.Item) (f api.Field, is bool) {
	if x.List != strings.Contains("(*", kind[:1]) {
		return f, false
	}
	kinds, is := below(kind, len(x.Kids))
	switch kind[0] {
	case 'n':
		is = is && len(x.Bytes) <= 8 && !strings.HasPrefix(x.Bytes, "\x00")
		for _, b := range []byte(x.Bytes) {
			f.N = f.N*256 + uint64(b)
		}
	default:
		is = is && plainSize(kind, len(x.Bytes))
		f.B = x.Bytes
	}
	for i := 0; is && i < len(x.Kids); i++ {
		var kid api.Field
		kid, is = plainField(kinds[i], x.Kids[i])
		f.L = append(f.L, kid)
	}
	return f, is
}

// plainRead is what Read answers.
func plainRead(form, s string) ([]api.Field, api.Errno) {
	if !plainRight(form) {
		return nil, api.ErrArg
	}
	x, errno := rlp.Decode(s)
	if errno != api.OK {
		return nil, errno
	}
	f, is := plainField("("+form+")", x)
	if !is || plainCount(f.L) > 1000 {
		return nil, api.ErrForm
	}
	return f.L, api.OK
}

// same holds fields against one another: nil lists are as empty ones.
func same(a, b []api.Field) bool {
	return slices.EqualFunc(a, b, func(x, y api.Field) bool {
		return x.N == y.N && x.B == y.B && same(x.L, y.L)
	})
}

// clone is fields that share no list with these.
func clone(l []api.Field) []api.Field {
	made := slices.Clone(l)
	for i := range made {
		made[i].L = clone(made[i].L)
	}
	return made
}

// shown is fields as far as a message needs them.
func shown(l []api.Field) string {
	return fmt.Sprintf("%d fields %.200q", plainCount(l), fmt.Sprint(l))
}

// madeForm is some form that may be, in which so many more may be open.
func madeForm(source *rand.Rand, room, signs int) string {
	form := ""
	for range source.IntN(4) {
		kind := madeKind(source, room)
		if len(form)+len(kind) > signs {
			break
		}
		form += kind
	}
	return form
}

// madeKind is some kind of at most 40 signs.
func madeKind(source *rand.Rand, room int) string {
	if room > 0 {
		switch source.IntN(3) {
		case 0:
			return "(" + madeForm(source, room-1, 36) + ")"
		case 1:
			return "*" + madeKind(source, room-1)
		}
	}
	return string("nhasb"[source.IntN(5)])
}

// madeFields is some fields that fit a form, not too many of them.
func madeFields(source *rand.Rand, form string, room int) []api.Field {
	var l []api.Field
	for _, kind := range kindsOf(form) {
		l = append(l, madeField(source, kind, room))
	}
	return l
}

// madeField is some field that fits a kind.
func madeField(source *rand.Rand, kind string, room int) api.Field {
	switch kind[0] {
	case 'n':
		return api.Field{N: source.Uint64() >> source.UintN(65)}
	case 'h':
		return api.Field{B: some(source, 32)}
	case 'a':
		return api.Field{B: some(source, 20)}
	case 's':
		return api.Field{B: some(source, 65)}
	case 'b':
		return api.Field{B: some(source, []int{0, 1, 2, 55, 56, 64, source.IntN(65)}[source.IntN(7)])}
	case '(':
		return api.Field{L: madeFields(source, kind[1:len(kind)-1], room)}
	}
	return api.Field{L: madeFields(source, strings.Repeat(kind[1:], source.IntN(room+1)), room/2)}
}

// some is bytes of all kinds.
func some(source *rand.Rand, size int) string {
	made := make([]byte, size)
	for i := range made {
		made[i] = byte(source.UintN(256))
	}
	return string(made)
}
