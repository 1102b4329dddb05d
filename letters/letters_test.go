package letters

import (
	"errors"
	"strings"
	"testing"

	"missive/agree"
	"missive/api"
	"missive/sign"
)

// text is 32 times a letter.
func text(letter string) string { return strings.Repeat(letter, 32) }

func sealed(t *testing.T, data string) string {
	t.Helper()
	letter, errno := Seal(text("s"), []string{agree.Public(text("a")), agree.Public(text("b"))}, text("e")+text("f"), data)
	if errno != api.OK {
		t.Fatalf("Seal: %d", errno)
	}
	return letter
}

// given tells what a function gives up with: OK, if it does not.
func given(t *testing.T, f func()) (errno api.Errno) {
	t.Helper()
	defer func() {
		if why := recover(); why != nil {
			own, is := why.(gaveUp)
			if !is {
				t.Fatalf("the value is %v", why)
			}
			errno = own.reason
		}
	}()
	f()
	return api.OK
}

func TestPartsOf(t *testing.T) {
	letter := sealed(t, "data")
	p := partsOf(letter)
	if p.point != agree.Public(text("e")) || p.sender != sign.Identity(text("s")) || len(p.shares) != 2 {
		t.Errorf("%x, %x, %d shares", p.point, p.sender, len(p.shares))
	}
	if p.shares[0] != letter[36:84] || p.shares[1] != letter[84:132] || p.closed != letter[168:188] || p.signature != letter[188:] {
		t.Errorf("%x, %x, %x", p.shares, p.closed, p.signature)
	}
	if p.title != letter[:168] || p.signed != letter[:188] {
		t.Errorf("%x, %x", p.title, p.signed)
	}
}

// Whatever is cut off, the reading ends by a value of its own type, not by one of the runtime's.
func TestPartsOfLettersCutOff(t *testing.T) {
	letter := sealed(t, "data")
	for cut := range letter {
		if errno := given(t, func() { partsOf(letter[:cut]) }); errno != api.ErrForm {
			t.Errorf("cut off at %d: %d", cut, errno)
		}
	}
	if errno := given(t, func() { partsOf(letter) }); errno != api.OK {
		t.Errorf("whole: %d", errno)
	}
}

func TestNext(t *testing.T) {
	r := &reading{letter: "abcdef"}
	if a, b, c := r.next(0), r.next(4), r.next(2); a != "" || b != "abcd" || c != "ef" || r.soFar() != "abcdef" {
		t.Errorf("%q, %q, %q, %q", a, b, c, r.soFar())
	}
	if errno := given(t, func() { r.next(1) }); errno != api.ErrForm || r.at != 6 {
		t.Errorf("behind the end: %d, at %d", errno, r.at)
	}
	if got := r.next(0); got != "" {
		t.Errorf("nothing at the end: %q", got)
	}
}

func TestCounts(t *testing.T) {
	for _, n := range []int{0, 1, 255, 256, 9999, 10000} {
		r := &reading{letter: count(strings.Repeat("x", n))}
		if got := r.count(); got != n || r.at != 4 {
			t.Errorf("%d was read as %d", n, got)
		}
	}
	for _, bytes := range []string{"\x11\x27\x00\x00", "\x00\x00\x01\x00", "\x00\x00\x00\x01", "\x00\x00\x00\x80", "\xff\xff\xff\x7f", "\xff\xff\xff\xff", "\xb0\xff\xff\xff", "\x00\x00\x00"} {
		r := &reading{letter: bytes}
		if errno := given(t, func() { r.count() }); errno != api.ErrForm {
			t.Errorf("%x: %d", bytes, errno)
		}
	}
}

func TestReasons(t *testing.T) {
	for _, errno := range []api.Errno{api.ErrForm, api.ErrSign, api.ErrPoint, api.ErrReader, api.ErrTag} {
		if got := given(t, func() { insist(false, errno) }); got != errno {
			t.Errorf("%d was given up as %d", errno, got)
		}
		if got := given(t, func() { insist(true, errno) }); got != api.OK {
			t.Errorf("what holds was given up as %d", got)
		}
		if got := reasonOf(gaveUp{errno}); got != errno {
			t.Errorf("%d was told as %d", errno, got)
		}
	}
	// What is not of the reading's own type must not pass for a letter.
	for _, why := range []any{"text", 0, errors.New("other"), api.OK, api.ErrTag} {
		if got := reasonOf(why); got != api.ErrForm {
			t.Errorf("%v was told as %d", why, got)
		}
	}
}

// A share can be unclosed only with the reader's own key, but data with the key of each share.
func TestInnerKey(t *testing.T) {
	p := partsOf(sealed(t, "data"))
	for place, secret := range []string{text("a"), text("b")} {
		inner, got := p.innerKey(secret)
		if inner != text("f") || got != place || p.data(inner) != "data" {
			t.Errorf("at %d: %q, %d", place, inner, got)
		}
	}
	if errno := given(t, func() { p.innerKey(text("c")) }); errno != api.ErrReader {
		t.Errorf("nobody's: %d", errno)
	}
	if errno := given(t, func() { p.data(text("g")) }); errno != api.ErrTag {
		t.Errorf("another key: %d", errno)
	}
	p.point = text("\x00")
	if errno := given(t, func() { p.innerKey(text("a")) }); errno != api.ErrPoint {
		t.Errorf("another point: %d", errno)
	}
	if errno := given(t, func() { p.checkSignature() }); errno != api.OK {
		t.Errorf("the signature: %d", errno)
	}
	p.signed += "x"
	if errno := given(t, func() { p.checkSignature() }); errno != api.ErrSign {
		t.Errorf("more than was signed: %d", errno)
	}
}

func TestOpenTellsWhatSealWasTold(t *testing.T) {
	for _, data := range []string{"", "data", strings.Repeat("long ", 2000)} {
		letter := sealed(t, data)
		got, errno := Open(text("b"), letter)
		if want := (api.Letter{Data: data, Sender: sign.Identity(text("s")), Place: 1}); got != want || errno != api.OK {
			t.Errorf("%v, %d, want %v", got, errno, want)
		}
		got, errno = Open(text("b"), letter+"x")
		if got != (api.Letter{}) || errno != api.ErrForm {
			t.Errorf("with a byte more: %v, %d", got, errno)
		}
	}
}
