package cipher

import "math/bits"

const (
	tagSize    = 16
	tagKeySize = 32
	partBits   = 26
	partMask   = 1<<partBits - 1
)

// A number modulo 2^130 - 5, as five parts of 26 bits, the lowest first.
// A part may be somewhat greater than that: sums and products of 64 bits have room for it.
type number [5]uint64

// tag is the tag of data by 32 bytes.
func tag(key []byte, data string) [tagSize]byte {
	r := numberOf(leaveOut(halves(key)), 0)
	var h number
	for at := 0; at < len(data); at += tagSize {
		h = times(plus(h, piece(data[at:min(at+tagSize, len(data))])), r)
	}
	return tellSum(lowest(h), halves(key[tagSize:]))
}

// halves reads 16 bytes as two words of 64 bits, the lowest first.
func halves(from []byte) [2]uint64 {
	var words [2]uint64
	for i := range tagSize {
		words[i/8] |= uint64(from[i]) << (i % 8 * 8)
	}
	return words
}

// leaveOut takes out the bits that r has not.
func leaveOut(words [2]uint64) [2]uint64 {
	return [2]uint64{words[0] & 0x0ffffffc0fffffff, words[1] & 0x0ffffffc0ffffffc}
}

// piece is the number of at most 16 bytes, and 256 to the power of how many they are.
func piece(data string) number {
	var filled [tagSize]byte
	copy(filled[:], data)
	if len(data) == tagSize {
		return numberOf(halves(filled[:]), 1)
	}
	filled[len(data)] = 1
	return numberOf(halves(filled[:]), 0)
}

// numberOf makes parts of two words and what goes beyond 2^128.
func numberOf(words [2]uint64, above uint64) number {
	low, high := words[0], words[1]
	return number{
		low & partMask,
		low >> 26 & partMask,
		(low>>52 | high<<12) & partMask,
		high >> 14 & partMask,
		high>>40 | above<<24,
	}
}

func plus(a, b number) number {
	for i := range a {
		a[i] += b[i]
	}
	return a
}

func times(a, b number) number {
	var sums number
	for i := range a {
		for j := range b {
			product := a[i] * b[j]
			if i+j < len(sums) {
				sums[i+j] += product
			} else {
				// 2^130 is 5 here.
				sums[i+j-len(sums)] += 5 * product
			}
		}
	}
	return carry(sums)
}

// carry makes the parts small again: all have 26 bits, but the second one may have a little more.
func carry(a number) number {
	var over uint64
	for i := range a {
		a[i] += over
		over = a[i] >> partBits
		a[i] &= partMask
	}
	a[0] += 5 * over
	a[1] += a[0] >> partBits
	a[0] &= partMask
	return a
}

// lowest gives a number that was carried its one form below 2^130 - 5.
func lowest(a number) number {
	// The number is below twice 2^130 - 5: it holds that once, if 5 more reach 2^130, else not at all.
	held := uint64(5)
	for _, part := range a {
		held = (part + held) >> partBits
	}
	over := 5 * held
	for i := range a {
		a[i] += over
		over = a[i] >> partBits
		a[i] &= partMask
	}
	return a
}

// tellSum tells h + s modulo 2^128, as 16 bytes.
func tellSum(h number, s [2]uint64) [tagSize]byte {
	low, over := bits.Add64(h[0]|h[1]<<26|h[2]<<52, s[0], 0)
	high, _ := bits.Add64(h[2]>>12|h[3]<<14|h[4]<<40, s[1], over)
	var out [tagSize]byte
	for i, half := range [2]uint64{low, high} {
		for j := range 8 {
			out[8*i+j] = byte(half >> (8 * j))
		}
	}
	return out
}
