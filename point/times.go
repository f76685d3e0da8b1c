package point

import "ecclesia/api"

// How many bits a word and a digit of a number have, and how many digits there
// are.
const (
	wordBits  = 64
	digitBits = 4
	digits    = len(api.U{}) * wordBits / digitBits
)

// share is a point that is to be added so often, with its multiples: as often
// as a digit says.
type share struct {
	often     api.U
	multiples [1 << digitBits]wide
}

// often is the share of a point of the curve.
func often(p api.Point, n api.U) *share {
	made := &share{often: n}
	made.multiples[0] = zero()
	for i := 1; i < len(made.multiples); i++ {
		made.multiples[i] = made.multiples[i-1].plus(widen(p))
	}
	return made
}

// at is the multiple of a digit, the lowest of which is number 0.
func (s *share) at(digit int) wide {
	from := digit * digitBits
	value := s.often[from/wordBits] >> (from % wordBits)
	return s.multiples[value%uint64(len(s.multiples))]
}

// together is all shares, added. They have their doublings in common, of which
// there are far more than of other sums.
func together(shares ...*share) wide {
	total := zero()
	for digit := digits - 1; digit >= 0; digit-- {
		for range digitBits {
			total = total.doubled()
		}
		for _, s := range shares {
			total = total.plus(s.at(digit))
		}
	}
	return total
}
