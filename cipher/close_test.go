package cipher

import (
	"crypto/sha512"
	"encoding/hex"
	"strings"
	"testing"
)

// The digest of all that an other program closed of the same data.
func TestCloseKnownAnswers(t *testing.T) {
	sizes := []int{0, 1, 15, 16, 17, 63, 64, 65, 12000}
	all := sha512.New()
	for _, title := range sizes {
		for _, data := range sizes {
			all.Write([]byte(Close(sample(32), sample(12), sample(title), sample(data))))
		}
	}
	want := "73f4589bc5bed1c9bf7f4a4f00ff0eddda3430cc856f6f0b235295db3080b53e17f5beabdbd25c6951bb089dd694145783c5d5e04147b977f703b3a2d896f7d4"
	if got := hex.EncodeToString(all.Sum(nil)); got != want {
		t.Errorf("%s, want %s", got, want)
	}
}

func TestUncloseUndoesClose(t *testing.T) {
	for n := range 200 {
		key, nonce, title, data := sample(n + 32)[n:], sample(n + 12)[n:], sample(199-n), sample(n)
		closed := Close(key, nonce, title, data)
		if got, right := Unclose(key, nonce, title, closed); got != data || !right {
			t.Errorf("of %d bytes: %x, %t", n, got, right)
		}
	}
}

func TestUncloseWithEveryBitTurned(t *testing.T) {
	key, nonce, title := sample(32), sample(12), sample(20)
	closed := Close(key, nonce, title, sample(70))
	for bit := range 8 * len(closed) {
		turned := []byte(closed)
		turned[bit/8] ^= 1 << (bit % 8)
		if got, right := Unclose(key, nonce, title, string(turned)); got != "" || right {
			t.Errorf("with the bit %d turned: %x, %t", bit, got, right)
		}
	}
}

// What is tagged ends at the same place, but says how much of it is title and how much is data.
func TestTitleAndDataDoNotRunTogether(t *testing.T) {
	key, nonce := sample(32), sample(12)
	closed := Close(key, nonce, "", strings.Repeat("\x00", 32))
	if got, right := Unclose(key, nonce, closed[:16], closed[16:]); right {
		t.Errorf("the data's first bytes as title: %x", got)
	}
	closed = Close(key, nonce, "title", "")
	if got, right := Unclose(key, nonce, "title\x00", closed); right {
		t.Errorf("a byte 0 behind the title: %x", got)
	}
}

func TestTurnCountsItsBlocks(t *testing.T) {
	key, nonce := sample(32), sample(12)
	stream := turn(key, nonce, strings.Repeat("\x00", 300*blockSize))
	for i := range 300 {
		want := block(key, uint32(i+1), nonce)
		if got := stream[i*blockSize:][:blockSize]; got != string(want[:]) {
			t.Errorf("the block %d: %x, want %x", i+1, got, want)
		}
	}
}
