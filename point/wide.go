package point

import (
	"ecclesia/api"
	"ecclesia/field"
	"ecclesia/u256"
)

// wide is a point with a third number, which stands for the point of X divided
// by the square of Z, and Y divided by its cube. What the chapter divides by
// goes into Z, so that points are added without a division: one takes as long
// as some 400 products.
type wide struct {
	api.Point
	Z api.U
}

// zero is the zero point, whose third number means nothing.
func zero() wide { return wide{Point: api.Point{Zero: true}} }

// widen is a point of the curve with its third number.
func widen(p api.Point) wide { return wide{Point: p, Z: u256.Small(1)} }

// narrow is the point that it stands for.
func (p wide) narrow() api.Point {
	if p.Zero {
		return p.Point
	}
	turned, _ := field.Inv(p.Z, prime)
	twice := product(turned, turned)
	return api.Point{
		X: product(p.X, twice),
		Y: product(p.Y, product(twice, turned)),
	}
}

// plus is two points, added.
func (p wide) plus(q wide) wide {
	if p.Zero {
		return q
	}
	if q.Zero {
		return p
	}
	// Only with one third number, which is that of both multiplied, can the
	// points' numbers be held against each other.
	ofP, ofQ := product(p.Z, p.Z), product(q.Z, q.Z)
	x, otherX := product(p.X, ofQ), product(q.X, ofP)
	y, otherY := product(p.Y, product(ofQ, q.Z)), product(q.Y, product(ofP, p.Z))
	run, rise := less(otherX, x), less(otherY, y)
	if run != (api.U{}) {
		twice := product(run, run)
		thrice := product(twice, run)
		// otherX times twice is this, as otherX is run more than x.
		x = product(x, twice)
		return third(rise, x, sum(x, thrice), product(y, thrice), product(product(p.Z, q.Z), run))
	}
	if rise != (api.U{}) {
		return zero()
	}
	return p.doubled()
}

// doubled is a point, added to itself.
func (p wide) doubled() wide {
	// No point of the curve has Y 0, so that but the zero point makes the zero
	// point with itself.
	if p.Zero {
		return p
	}
	run := sum(p.Y, p.Y)
	half := product(run, p.Y)
	twice := sum(half, half)
	rise := product(p.X, p.X)
	rise = sum(sum(rise, rise), rise)
	// What a third number of run times Z makes of X and Y: twice is the square
	// of run, and twice half its cube times Y.
	x, y := product(p.X, twice), product(twice, half)
	return third(rise, x, x, y, product(run, p.Z))
}

// third is what two points make: with l the rise divided by z, x and y the
// first one's numbers, otherX the second one's, all of the third number z.
func third(rise, x, otherX, y, z api.U) wide {
	made := less(less(product(rise, rise), x), otherX)
	return wide{
		Point: api.Point{X: made, Y: less(product(rise, less(x, made)), y)},
		Z:     z,
	}
}
