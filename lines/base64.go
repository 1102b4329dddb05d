package lines

import "strings"

const (
	alphabet = "ABCDEFGHIJKLMNOPQRSTUVWXYZabcdefghijklmnopqrstuvwxyz0123456789+/"
	filler   = '='
)

// lettersOf writes bytes in base 64.
func lettersOf(bytes string) string {
	var out strings.Builder
	for bytes != "" {
		n := min(3, len(bytes))
		out.WriteString(fourOf(bytes[:n]))
		bytes = bytes[n:]
	}
	return out.String()
}

// fourOf writes one, two or three bytes as four letters, from the last byte to the first.
func fourOf(bytes string) string {
	four := [4]byte{filler, filler, filler, filler}
	// The highest bits of a byte go into the letter ahead of its own; of a byte that is missing they are 0.
	var over byte
	switch len(bytes) {
	case 3:
		four[3] = alphabet[bytes[2]&63]
		over = bytes[2] >> 6
		fallthrough
	case 2:
		four[2] = alphabet[bytes[1]&15<<2|over]
		over = bytes[1] >> 4
		fallthrough
	case 1:
		four[1] = alphabet[bytes[0]&3<<4|over]
		four[0] = alphabet[bytes[0]>>2]
	}
	return string(four[:])
}

// bytesOf reads a line of base 64, and tells whether it is one.
func bytesOf(line string) (string, bool) {
	if line == "" || len(line) > lettersInLine {
		return "", false
	}
	var out strings.Builder
	for at := 0; at+4 <= len(line); at += 4 {
		out.WriteString(threeOf(line[at : at+4]))
	}
	// Bytes are written in one way alone: a line with anything wrong in it is another one.
	return out.String(), lettersOf(out.String()) == line
}

// threeOf reads four letters, of which one or two may be missing. What comes of wrong letters are some bytes, or none.
func threeOf(four string) string {
	var three [3]byte
	letters := strings.TrimRight(four, string(filler))
	switch len(letters) {
	case 4:
		three[2] = value(letters[2])<<6 | value(letters[3])
		fallthrough
	case 3:
		three[1] = value(letters[1])<<4 | value(letters[2])>>2
		fallthrough
	case 2:
		three[0] = value(letters[0])<<2 | value(letters[1])>>4
		return string(three[:len(letters)-1])
	}
	return ""
}

// value is the number of a letter.
func value(letter byte) byte { return byte(strings.IndexByte(alphabet, letter)) }
