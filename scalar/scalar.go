// Package scalar reckons with numbers modulo Q, which is 2^252 + 27742317777372353535851937790883648493.
// A number may be secret: no branch hangs on one, so that how long this takes tells nothing.
package scalar

import "math/bits"

const (
	// Size is how many bytes a number has.
	Size = 32
	// Bits is how many bits a number below Q can have.
	Bits = 253

	wordBits = 64
)

// A Number is a number below Q, as four words, the lowest first.
type Number [4]uint64

// Of is the number of bytes, however many, modulo Q.
func Of(from string) Number {
	var sum Number
	for at := 8*len(from) - 1; at >= 0; at-- {
		bit := uint64(from[at/8]>>(at%8)) & 1
		sum = sum.Plus(sum).Plus(Number{bit})
	}
	return sum
}

// Bytes tells the number as 32 bytes.
func (a Number) Bytes() string {
	var out [Size]byte
	for i := range out {
		out[i] = byte(a[i/8] >> (i % 8 * 8))
	}
	return string(out[:])
}

// Bit is how often the number holds 2 to that power, from 0 to Bits - 1: 0 or 1.
func (a Number) Bit(at int) uint64 { return a[at/wordBits] >> (at % wordBits) & 1 }

// Plus is the sum.
func (a Number) Plus(b Number) Number {
	// Two numbers below Q make less than 2^254: nothing goes beyond the highest word.
	var over uint64
	for i := range a {
		a[i], over = bits.Add64(a[i], b[i], over)
	}
	return a.lowered()
}

// Times is the product.
func (a Number) Times(b Number) Number {
	var sum Number
	for at := Bits - 1; at >= 0; at-- {
		sum = sum.Plus(sum).Plus(a.onlyIf(b.Bit(at)))
	}
	return sum
}

// onlyIf is the number, if the bit is 1, else 0.
func (a Number) onlyIf(bit uint64) Number {
	for i := range a {
		a[i] &= -bit
	}
	return a
}

// lowered takes Q away from a number below 2Q, if it holds Q.
func (a Number) lowered() Number {
	var less Number
	var missing uint64
	for i, word := range modulus() {
		less[i], missing = bits.Sub64(a[i], word, missing)
	}
	kept := -missing
	for i := range a {
		a[i] = a[i]&kept | less[i]&^kept
	}
	return a
}

// modulus is Q.
func modulus() [4]uint64 {
	return [4]uint64{0x5812631a5cf5d3ed, 0x14def9dea2f79cd6, 0, 1 << 60}
}
