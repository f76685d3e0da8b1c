package nibble_test

import (
	"encoding/hex"
	"regexp"
	"strings"

	"ecclesia/api"
)

// What the chapter says, by digits: a half byte is one of them, a row of them is
// what the library writes bytes as.

// digits are those of half bytes, from 0 on.
const digits = "0123456789abcdef"

// written is a part, a digit for each half byte, if it is one.
func written(part string) (string, bool) {
	var made strings.Builder
	for _, half := range []byte(part) {
		if half >= 16 {
			return "", false
		}
		made.WriteByte(digits[half])
	}
	return made.String(), true
}

// partOf is the part that has these digits.
func partOf(row string) string {
	var made strings.Builder
	for _, one := range []byte(row) {
		made.WriteByte(byte(strings.IndexByte(digits, one)))
	}
	return made.String()
}

// plainOf is what Of answers.
func plainOf(key string) string { return partOf(hex.EncodeToString([]byte(key))) }

// plainKey is what Key answers.
func plainKey(part string) (string, api.Errno) {
	row, is := written(part)
	key, err := hex.DecodeString(row)
	if !is || err != nil {
		return "", api.ErrArg
	}
	return string(key), api.OK
}

// plainPack is what Pack answers.
func plainPack(part string, ends bool) (string, api.Errno) {
	row, is := written(part)
	if !is {
		return "", api.ErrArg
	}
	number := 0
	if ends {
		number = 2
	}
	if len(row)%2 != 0 {
		number++
	}
	ahead := digits[number : number+1]
	if number%2 == 0 {
		ahead += "0"
	}
	whole, _ := hex.DecodeString(ahead + row)
	return string(whole), api.OK
}

// plainUnpack is what Unpack answers.
func plainUnpack(s string) (string, bool, api.Errno) {
	forms := regexp.MustCompile(`^([02])0((?:..)*)$|^([13])(.(?:..)*)$`)
	found := forms.FindStringSubmatch(hex.EncodeToString([]byte(s)))
	if found == nil {
		return "", false, api.ErrForm
	}
	number, part := found[1]+found[3], partOf(found[2]+found[4])
	return part, number == "2" || number == "3", api.OK
}

// plainShare is what Share answers: of all beginnings of one, the longest that
// the other one has too.
func plainShare(a, b string) int {
	most := 0
	for end := range len(a) + 1 {
		if strings.HasPrefix(b, a[:end]) {
			most = end
		}
	}
	return most
}
