package crc

// turned are the bits that are turned where a register and a bit are unlike.
const turned = 0xEDB88320

// sum is a text's sum, by what table answers.
func sum(made [256]uint32, s string) uint32 {
	register := ^uint32(0)
	for i := range len(s) {
		register = register>>8 ^ made[byte(register)^s[i]]
	}
	return ^register
}

// table is what each byte becomes as a register, by eight bits that are zero.
func table() [256]uint32 {
	var made [256]uint32
	register := uint32(1)
	for bit := len(made) / 2; bit > 0; bit /= 2 {
		register = moved(register)
		// Bytes become what their bits become, each one apart: so most of the
		// table is told by one step an entry, which counts for short texts.
		for above := 0; above < len(made); above += 2 * bit {
			made[above+bit] = made[above] ^ register
		}
	}
	return made
}

// moved is what a register becomes by a bit that is zero.
func moved(register uint32) uint32 {
	if register&1 == 0 {
		return register >> 1
	}
	return register>>1 ^ turned
}
