package digest

const (
	outerMask = 92
	innerMask = 54
)

// Mac is the mac of data by a key: 64 bytes.
func Mac(key string, data string) string {
	if len(key) > blockSize {
		key = Of(key)
	}
	return Of(mask(key, outerMask) + Of(mask(key, innerMask)+data))
}

// mask xors a key that fits into a block, and the bytes 0 behind it, with one byte.
func mask(key string, with byte) string {
	var block [blockSize]byte
	copy(block[:], key)
	for i := range block {
		block[i] ^= with
	}
	return string(block[:])
}

// Derive makes n bytes of a secret, a salt and a purpose.
// The number of a piece is one byte, so n is at most 255 times 64.
func Derive(secret string, salt string, purpose string, n int) string {
	by := Mac(salt, secret)
	derived := make([]byte, 0, n)
	piece := ""
	for number := byte(1); len(derived) < n; number++ {
		piece = Mac(by, piece+purpose+string([]byte{number}))
		derived = append(derived, piece[:min(len(piece), n-len(derived))]...)
	}
	return string(derived)
}
