package lines

import (
	"encoding/base64"
	"strings"
	"testing"
)

// All one and two bytes, and all three bytes of which two are at the edges of letters.
func TestFourAndThree(t *testing.T) {
	check := func(bytes string) {
		four := fourOf(bytes)
		if want := base64.StdEncoding.EncodeToString([]byte(bytes)); four != want {
			t.Errorf("of %x: %q, want %q", bytes, four, want)
		}
		if got := threeOf(four); got != bytes {
			t.Errorf("of %q: %x, want %x", four, got, bytes)
		}
	}
	for a := range 256 {
		check(string([]byte{byte(a)}))
		for b := range 256 {
			check(string([]byte{byte(a), byte(b)}))
			for _, c := range []byte{0, 1, 63, 64, 128, 255} {
				check(string([]byte{byte(a), byte(b), c}))
				check(string([]byte{c, byte(a), byte(b)}))
				check(string([]byte{byte(a), c, byte(b)}))
			}
		}
	}
}

func TestValues(t *testing.T) {
	for letter, want := range map[byte]byte{'A': 0, 'Z': 25, 'a': 26, 'z': 51, '0': 52, '9': 61, '+': 62, '/': 63} {
		if got := value(letter); got != want {
			t.Errorf("%q is %d, want %d", letter, got, want)
		}
	}
}

func TestBytesOf(t *testing.T) {
	long := strings.Repeat("A", 64)
	for line, want := range map[string]string{"SGk=": "Hi", "SA==": "H", "SGkh": "Hi!", "SGkhSGk=": "Hi!Hi", long: strings.Repeat("\x00", 48), long[1:] + "=": strings.Repeat("\x00", 47)} {
		if got, right := bytesOf(line); got != want || !right {
			t.Errorf("of %q: %q, %t", line, got, right)
		}
	}
	for _, line := range []string{"", "=", "====", "S", "SG", "SGk", "SGk=S", "S===", "SGl=", "SB==", "SG=k", "SGk=SGk=", "SGkh====", "SGk\r", "SGk*", "-AAA", "SGkh\n", long + "AAAA", long + "A", lastLine, firstLine} {
		if got, right := bytesOf(line); right {
			t.Errorf("of %q: %q", line, got)
		}
	}
}

func TestInner(t *testing.T) {
	long := strings.Repeat("A", 64)
	for _, c := range []struct {
		lines []string
		bytes int
		end   int
	}{
		{[]string{firstLine}, 0, 1},
		{[]string{firstLine, lastLine}, 0, 1},
		{[]string{firstLine, long}, 48, 2},
		{[]string{firstLine, long, long, lastLine}, 96, 3},
		{[]string{firstLine, long, "AAAA", lastLine}, 51, 3},
		{[]string{firstLine, long, "AAAA", "AAAA", lastLine}, 51, 3},
		{[]string{firstLine, "AA==", long}, 1, 2},
		{[]string{firstLine, long, "*", long}, 48, 2},
	} {
		if got, end := inner(c.lines); len(got) != c.bytes || end != c.end {
			t.Errorf("of %q: %d bytes, %d", c.lines, len(got), end)
		}
	}
}

// No limits are known here: more bytes than a letter can have are written and read as well.
func TestReadUndoesWrite(t *testing.T) {
	for _, n := range []int{0, 1, 2, 3, 47, 48, 49, 12000, 12001, 50000} {
		bytes := strings.Repeat("0123456789", n/10+1)[:n]
		if got, line, right := Read(Write(bytes)); got != bytes || line != 0 || !right {
			t.Errorf("of %d bytes: %d, %d, %t", n, len(got), line, right)
		}
	}
}
