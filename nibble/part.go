package nibble

// How many bits a half byte has, and the greatest one.
const (
	halfBits = 4
	most     = 0x0F
)

// may says if a text is a part.
func may(text string) bool {
	for i := range len(text) {
		if text[i] > most {
			return false
		}
	}
	return true
}

// odd says if a part of such a size has an odd number of half bytes.
func odd(size int) bool { return size%2 == 1 }

// head is what stands ahead of a part of such a size that is packed: half bytes
// too, so many that with the part they are an even number.
func head(size int, ends bool) string {
	first := byte(0)
	if ends {
		first = 2
	}
	if odd(size) {
		return string([]byte{first + 1})
	}
	return string([]byte{first, 0})
}

// join is the bytes whose halves stand in a part with an even number of them.
func join(part string) string {
	made := make([]byte, len(part)/2)
	for i := range len(made) {
		made[i] = part[2*i]<<halfBits | part[2*i+1]
	}
	return string(made)
}
