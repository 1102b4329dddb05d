// Package lines writes bytes as the text of a letter, and reads such texts. It knows no limits.
package lines

import "strings"

const (
	firstLine     = "-----BEGIN MISSIVE-----"
	lastLine      = "-----END MISSIVE-----"
	bytesInLine   = 48
	lettersInLine = 64
)

// Write is the text of a letter of these bytes.
func Write(bytes string) string {
	var out strings.Builder
	out.WriteString(firstLine + "\n")
	for bytes != "" {
		n := min(bytesInLine, len(bytes))
		out.WriteString(lettersOf(bytes[:n]) + "\n")
		bytes = bytes[n:]
	}
	out.WriteString(lastLine + "\n")
	return out.String()
}

// Read tells the bytes whose text this is and true, or, if it is none, the number of the first line with which none goes on.
func Read(text string) (string, int, bool) {
	pieces := strings.Split(text, "\n")
	whole, behind := pieces[:len(pieces)-1], pieces[len(pieces)-1]
	if len(whole) == 0 || whole[0] != firstLine {
		return "", 0, false
	}
	bytes, end := inner(whole)
	if end == len(whole) || whole[end] != lastLine {
		return "", end, false
	}
	if end+1 < len(whole) || behind != "" {
		return "", end + 1, false
	}
	return bytes, 0, true
}

// inner reads the lines behind the first one, up to the one that only the last line can be, and tells the number of that.
func inner(lines []string) (string, int) {
	var out strings.Builder
	for at := 1; at < len(lines); at++ {
		bytes, right := bytesOf(lines[at])
		if !right {
			return out.String(), at
		}
		out.WriteString(bytes)
		if len(bytes) < bytesInLine {
			return out.String(), at + 1
		}
	}
	return out.String(), len(lines)
}
