// Package cipher has the cipher: blocks that data is xored with, tags, and data that is closed by both.
// It knows no limits: who calls it has checked the sizes.
package cipher

import "math/bits"

const (
	blockSize   = 64
	wordSize    = 4
	blockWords  = blockSize / wordSize
	doubleTurns = 10
)

// block is the block of a key, a number and a nonce.
func block(key string, index uint32, nonce string) [blockSize]byte {
	first := firstWords(key, index, nonce)
	words := first
	for range doubleTurns {
		stir(&words)
	}
	var out [blockSize]byte
	for i, word := range words {
		putWord(out[i*wordSize:], word+first[i])
	}
	return out
}

// firstWords are the words ahead of all quarters.
func firstWords(key string, index uint32, nonce string) [blockWords]uint32 {
	words := [blockWords]uint32{1634760805, 857760878, 2036477234, 1797285236}
	for i := range 8 {
		words[4+i] = word(key[i*wordSize:])
	}
	words[12] = index
	for i := range 3 {
		words[13+i] = word(nonce[i*wordSize:])
	}
	return words
}

// stir does the eight quarters that are done ten times.
func stir(words *[blockWords]uint32) {
	quarter(words, 0, 4, 8, 12)
	quarter(words, 1, 5, 9, 13)
	quarter(words, 2, 6, 10, 14)
	quarter(words, 3, 7, 11, 15)
	quarter(words, 0, 5, 10, 15)
	quarter(words, 1, 6, 11, 12)
	quarter(words, 2, 7, 8, 13)
	quarter(words, 3, 4, 9, 14)
}

func quarter(words *[blockWords]uint32, a, b, c, d int) {
	mix(words, a, b, d, 16)
	mix(words, c, d, b, 12)
	mix(words, a, b, d, 8)
	mix(words, c, d, b, 7)
}

// mix is one of the four steps of a quarter: one word grows by another, and a third is xored with it and turned left.
func mix(words *[blockWords]uint32, grows, by, turned, left int) {
	words[grows] += words[by]
	words[turned] = bits.RotateLeft32(words[turned]^words[grows], left)
}

// word reads 4 bytes, the lowest first.
func word(from string) uint32 {
	var w uint32
	for i := range wordSize {
		w |= uint32(from[i]) << (8 * i)
	}
	return w
}

// putWord writes 4 bytes, the lowest first.
func putWord(to []byte, w uint32) {
	for i := range wordSize {
		to[i] = byte(w >> (8 * i))
	}
}
