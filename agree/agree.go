// Package agree tells what a secret and a point agree upon. It checks no sizes.
package agree

import "missive/field"

const (
	highestBit = 254
	// (486662 - 2) / 4, of the curve y^2 = x^3 + 486662 x^2 + x.
	curve = 121665
	base  = 9
)

// Public is the public key of a secret.
func Public(secret string) string { return withNumber(secret, field.Number{base}) }

// Upon is what a secret and a point, of 32 bytes each, agree upon, and whether it is of use: 32 bytes 0 are not, for anyone knows them.
func Upon(secret, point string) (string, bool) {
	agreed := withNumber(secret, field.Of(point))
	return agreed, agreed != field.Number{}.Bytes()
}

// A ladder holds two multiples of a point as quotients, a / b and c / d, which are one point apart.
type ladder struct{ a, b, c, d field.Number }

func withNumber(secret string, u field.Number) string {
	key := Changed(secret)
	rungs := ladder{a: field.Number{1}, c: u, d: field.Number{1}}
	for at := highestBit; at >= 0; at-- {
		bit := uint64(key[at/8]>>(at%8)) & 1
		rungs = rungs.swapped(bit).stepped(u).swapped(bit)
	}
	return rungs.a.Times(rungs.b.Inverse()).Bytes()
}

// Changed is a secret with the bits that all have in common.
func Changed(secret string) string {
	key := []byte(secret)
	key[0] &= 248
	key[31] = key[31]&63 | 64
	return string(key)
}

func (l ladder) swapped(bit uint64) ladder {
	l.a, l.c = field.Swap(bit, l.a, l.c)
	l.b, l.d = field.Swap(bit, l.b, l.d)
	return l
}

// stepped doubles the first multiple, and adds it to the second.
func (l ladder) stepped(u field.Number) ladder {
	e, f := l.a.Plus(l.b), l.a.Minus(l.b)
	g, h := l.c.Plus(l.d), l.c.Minus(l.d)
	he, gf := h.Times(e), g.Times(f)
	ee, ff := e.Square(), f.Square()
	apart := ee.Minus(ff)
	return ladder{
		a: ee.Times(ff),
		b: apart.Times(ee.Plus(apart.Times(field.Number{curve}))),
		c: he.Plus(gf).Square(),
		d: u.Times(he.Minus(gf).Square()),
	}
}
