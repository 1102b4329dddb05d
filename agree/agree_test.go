package agree

import (
	"encoding/hex"
	"strings"
	"testing"
)

func TestChanged(t *testing.T) {
	full := Changed(strings.Repeat("\xff", 32))
	if full[0] != 248 || full[31] != 127 || full[1:31] != strings.Repeat("\xff", 30) {
		t.Errorf("of all bits: %x", full)
	}
	empty := Changed(strings.Repeat("\x00", 32))
	if empty[31] != 64 || empty[:31] != strings.Repeat("\x00", 31) {
		t.Errorf("of no bits: %x", empty)
	}
}

func TestUponKnownAnswer(t *testing.T) {
	nine := "\x09" + strings.Repeat("\x00", 31)
	const want = "422c8e7a6227d7bca1350b3e2bb7279f7897b87bb6854b783c60e80311ae3079"
	if got, useful := Upon(nine, nine); hex.EncodeToString([]byte(got)) != want || !useful {
		t.Errorf("9 with 9: %x, %t", got, useful)
	}
	if got := hex.EncodeToString([]byte(Public(nine))); got != want {
		t.Errorf("public key of 9: %s", got)
	}
}

func TestUponTheFewPoints(t *testing.T) {
	nothing := strings.Repeat("\x00", 32)
	for _, point := range []string{nothing, "\x01" + nothing[1:], "\xec" + strings.Repeat("\xff", 30) + "\x7f"} {
		if got, useful := Upon(strings.Repeat("k", 32), point); got != nothing || useful {
			t.Errorf("with %x: %x, %t", point, got, useful)
		}
	}
}
