// Package curve reckons with points: those (x, y), of numbers modulo p, with y^2 - x^2 = 1 + D x^2 y^2.
package curve

import (
	"missive/field"
	"missive/scalar"
)

const (
	// Size is how many bytes a point has.
	Size = field.Size

	// Where the lowest bit of x stands: above those of y, which leave the highest bit of the last byte free.
	lastByte = Size - 1
	freeBit  = 7
)

// A Point holds x and y as quotients, x / z and y / z: so a sum of points needs no division.
type Point struct{ x, y, z field.Number }

// Base is B: the point with y = 4/5 and an even x.
func Base() Point {
	return Point{
		x: field.Number{0x62d608f25d51a, 0x412a4b4f6592a, 0x75b7171a4b31d, 0x1ff60527118fe, 0x216936d3cd6e5},
		y: field.Number{0x6666666666658, 0x4cccccccccccc, 0x1999999999999, 0x3333333333333, 0x6666666666666},
		z: one(),
	}
}

// Of is the point of 32 bytes, if they are one.
func Of(from string) (Point, bool) {
	y := field.Of(from)
	yy := y.Square()
	// 1 + D y^2 is never 0, for -1 / D has no root.
	xx := yy.Minus(one()).Times(factor().Times(yy).Plus(one()).Inverse())
	x, found := xx.Root()
	if !found {
		return Point{}, false
	}
	if x.LowestBit() != from[lastByte]>>freeBit {
		x = x.Negated()
	}
	made := Point{x, y, one()}
	// Written again, these are other bytes if they told a y from p on, or a lowest bit 1 of x = 0.
	if made.Bytes() != from {
		return Point{}, false
	}
	return made, true
}

// Bytes tells the point as 32 bytes.
func (a Point) Bytes() string {
	part := a.z.Inverse()
	out := []byte(a.y.Times(part).Bytes())
	out[lastByte] |= a.x.Times(part).LowestBit() << freeBit
	return string(out)
}

// Plus is the sum.
func (a Point) Plus(b Point) Point {
	xx, yy := a.x.Times(b.x), a.y.Times(b.y)
	across := a.x.Times(b.y).Plus(b.x.Times(a.y))
	// All quotients are brought to the same z: z^2 is the 1 of the document's sum, neither of its divisors is ever 0.
	z := a.z.Times(b.z)
	whole, change := z.Square(), factor().Times(xx).Times(yy)
	more, less := whole.Plus(change), whole.Minus(change)
	return Point{
		x: z.Times(across).Times(less),
		y: z.Times(yy.Plus(xx)).Times(more),
		z: more.Times(less),
	}
}

// Negated is the point (-x, y): its sum with this one is (0, 1).
func (a Point) Negated() Point { return Point{a.x.Negated(), a.y, a.z} }

// Times is the sum of so many times the point.
func (a Point) Times(n scalar.Number) Point {
	sum := Point{y: one(), z: one()}
	// n may be secret: both sums are made for each of its bits, so that how long this takes tells nothing.
	for at := scalar.Bits - 1; at >= 0; at-- {
		sum = sum.Plus(sum)
		sum = choose(n.Bit(at), sum, sum.Plus(a))
	}
	return sum
}

// choose is a, if the bit is 0, and b, if it is 1.
func choose(bit uint64, a, b Point) Point {
	a.x, _ = field.Swap(bit, a.x, b.x)
	a.y, _ = field.Swap(bit, a.y, b.y)
	a.z, _ = field.Swap(bit, a.z, b.z)
	return a
}

func one() field.Number { return field.Number{1} }

// factor is D: -121665 / 121666.
func factor() field.Number {
	return field.Number{0x34dca135978a3, 0x1a8283b156ebd, 0x5e7a26001c029, 0x739c663a03cbb, 0x52036cee2b6ff}
}
