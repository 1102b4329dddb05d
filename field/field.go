// Package field reckons with numbers modulo p, which is 2^255 - 19.
package field

// Size is how many bytes a number has.
const Size = 32

const (
	partBits = 51
	partMask = 1<<partBits - 1
	// What 2^255 is modulo p.
	beyond = 19
)

// A Number is a number modulo p, as five parts of 51 bits, the lowest first.
// A part may be greater, but is below 2^52: so much room the sums and products leave for their carries.
type Number [5]uint64

// Of is the number of 32 bytes, without the highest bit of the last one.
func Of(from string) Number {
	var words [4]uint64
	for i := range Size {
		words[i/8] |= uint64(from[i]) << (i % 8 * 8)
	}
	return Number{
		words[0] & partMask,
		(words[0]>>51 | words[1]<<13) & partMask,
		(words[1]>>38 | words[2]<<26) & partMask,
		(words[2]>>25 | words[3]<<39) & partMask,
		words[3] >> 12 & partMask,
	}
}

// Bytes tells the number, which is below p then, as 32 bytes.
func (a Number) Bytes() string {
	a = a.lowest()
	words := [4]uint64{
		a[0] | a[1]<<51,
		a[1]>>13 | a[2]<<38,
		a[2]>>26 | a[3]<<25,
		a[3]>>39 | a[4]<<12,
	}
	var out [Size]byte
	for i := range out {
		out[i] = byte(words[i/8] >> (i % 8 * 8))
	}
	return string(out[:])
}

// Plus is the sum.
func (a Number) Plus(b Number) Number {
	for i := range a {
		a[i] += b[i]
	}
	return a.carried()
}

// Minus is the difference.
func (a Number) Minus(b Number) Number {
	// Four times p is added ahead, of which each part is greater than one of b can be.
	const first, other = 4 * (partMask + 1 - beyond), 4 * partMask
	for i, ahead := range [5]uint64{first, other, other, other, other} {
		a[i] += ahead - b[i]
	}
	return a.carried()
}

// Negated is 0 less the number.
func (a Number) Negated() Number { return Number{}.Minus(a) }

// LowestBit is that of the number below p: 0, if it is even, else 1.
func (a Number) LowestBit() byte { return byte(a.lowest()[0] & 1) }

// Swap answers both numbers, a first if the bit is 0, b first if it is 1.
func Swap(bit uint64, a, b Number) (Number, Number) {
	// The bit may be one of a secret: no branch hangs on it, so that how long this takes tells nothing.
	chosen := -bit
	for i := range a {
		change := chosen & (a[i] ^ b[i])
		a[i] ^= change
		b[i] ^= change
	}
	return a, b
}

// carried makes the parts small again: all have 51 bits, but the second one may have a little more.
func (a Number) carried() Number {
	a, over := a.carry(0)
	a[0] += beyond * over
	a[1] += a[0] >> partBits
	a[0] &= partMask
	return a
}

// carry adds to the lowest part, leaves 51 bits in each, and tells what goes beyond the highest.
func (a Number) carry(over uint64) (Number, uint64) {
	for i := range a {
		a[i] += over
		over = a[i] >> partBits
		a[i] &= partMask
	}
	return a, over
}

// lowest gives the number its one form below p.
func (a Number) lowest() Number {
	a = a.carried()
	// Now it is below 2p: it holds p once, if 19 more reach 2^255, else not at all.
	_, held := a.carry(beyond)
	a, _ = a.carry(beyond * held)
	return a
}
