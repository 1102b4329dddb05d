package cipher

import "strings"

// Close closes data with a key (32 bytes), a nonce (12 bytes) and a title.
func Close(key string, nonce string, title string, data string) string {
	closed := turn(key, nonce, data)
	return closed + seal(key, nonce, title, closed)
}

// Unclose tells the data that Close made this of (16 bytes or more), if there is such data.
func Unclose(key string, nonce string, title string, closed string) (string, bool) {
	cut := len(closed) - tagSize
	if !same(closed[cut:], seal(key, nonce, title, closed[:cut])) {
		return "", false
	}
	return turn(key, nonce, closed[:cut]), true
}

// turn xors data with the blocks from 1 on: done twice, it is undone.
func turn(key string, nonce string, data string) string {
	out := []byte(data)
	for at := 0; at < len(out); at += blockSize {
		with := block(key, uint32(at/blockSize+1), nonce)
		for i := range out[at:min(at+blockSize, len(out))] {
			out[at+i] ^= with[i]
		}
	}
	return string(out)
}

// seal is the tag that comes behind closed data.
func seal(key string, nonce string, title string, closed string) string {
	with := block(key, 0, nonce)
	made := tag(with[:tagKeySize], fill(title)+fill(closed)+count(title)+count(closed))
	return string(made[:])
}

// fill puts bytes 0 behind, up to a multiple of 16.
func fill(data string) string {
	return data + strings.Repeat("\x00", (tagSize-len(data)%tagSize)%tagSize)
}

// count tells how many bytes there are, in 8 bytes.
func count(data string) string {
	var out [8]byte
	for i := range out {
		out[i] = byte(uint64(len(data)) >> (8 * i))
	}
	return string(out[:])
}

// same compares all bytes, for the time that it takes must not tell how much of a tag was guessed.
func same(a, b string) bool {
	var differing byte
	for i := range tagSize {
		differing |= a[i] ^ b[i]
	}
	return differing == 0
}
