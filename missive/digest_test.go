package missive_test

import (
	"crypto/hkdf"
	"crypto/hmac"
	"crypto/sha512"
	"math"
	"strings"
	"sync"
	"testing"

	"missive/api"
	"missive/missive"
)

// sample makes n bytes that do not repeat at the size of a block.
func sample(n int) string {
	out := make([]byte, n)
	for i := range out {
		out[i] = byte(i*i + 7*i + i/251 + n)
	}
	return string(out)
}

func libraryDigest(data string) string {
	sum := sha512.Sum512([]byte(data))
	return string(sum[:])
}

func libraryMac(key, data string) string {
	h := hmac.New(sha512.New, []byte(key))
	h.Write([]byte(data))
	return string(h.Sum(nil))
}

func libraryDerive(t *testing.T, secret, salt, purpose string, n int) string {
	t.Helper()
	derived, err := hkdf.Key(sha512.New, []byte(secret), []byte(salt), purpose, n)
	if err != nil {
		t.Fatal(err)
	}
	return string(derived)
}

func TestDigestExample(t *testing.T) {
	got, errno := missive.Digest("abc")
	if errno != api.OK || len(got) != api.DigestSize || got[:4] != "\xdd\xaf\x35\xa1" {
		t.Errorf("P2: of abc: %x, %d", got, errno)
	}
}

func TestDigestSizes(t *testing.T) {
	for _, n := range []int{0, 1, 110, 111, 112, 113, 119, 120, 127, 128, 129, 239, 240, 255, 256, 9999, 10000} {
		data := sample(n)
		if got, errno := missive.Digest(data); got != libraryDigest(data) || errno != api.OK {
			t.Errorf("P2: of %d bytes: %x, %d", n, got, errno)
		}
	}
	for _, n := range []int{10001, 10002, 12000, 20001, 1 << 20} {
		if got, errno := missive.Digest(sample(n)); got != "" || errno != api.ErrSize {
			t.Errorf("P2: of %d bytes: %x, %d", n, got, errno)
		}
	}
}

func TestMacSizes(t *testing.T) {
	for _, keySize := range []int{0, 1, 64, 127, 128, 129, 9999, 10000} {
		for _, dataSize := range []int{0, 1, 111, 112, 127, 128, 9872, 9999, 10000} {
			key, data := sample(keySize), sample(dataSize)
			if got, errno := missive.Mac(key, data); got != libraryMac(key, data) || errno != api.OK {
				t.Errorf("P2: of %d bytes by %d: %x, %d", dataSize, keySize, got, errno)
			}
		}
	}
}

func TestMacTooLong(t *testing.T) {
	for _, c := range [][2]int{{10001, 0}, {0, 10001}, {10001, 10000}, {10000, 10001}, {10001, 10001}, {1 << 20, 5}} {
		if got, errno := missive.Mac(sample(c[0]), sample(c[1])); got != "" || errno != api.ErrSize {
			t.Errorf("P2: of %d bytes by %d: %x, %d", c[1], c[0], got, errno)
		}
	}
}

// A long key stands for its digest, and bytes 0 behind a short key change nothing.
func TestMacKeysThatAreTheSame(t *testing.T) {
	long := sample(129)
	byLong, _ := missive.Mac(long, "data")
	byDigest, _ := missive.Mac(libraryDigest(long), "data")
	if byLong == "" || byLong != byDigest {
		t.Errorf("P2: by a long key %x, by its digest %x", byLong, byDigest)
	}
	byShort, _ := missive.Mac("key", "data")
	byFilled, _ := missive.Mac("key"+strings.Repeat("\x00", 125), "data")
	if byShort == "" || byShort != byFilled {
		t.Errorf("P2: by a short key %x, filled %x", byShort, byFilled)
	}
}

func TestDeriveCounts(t *testing.T) {
	for _, n := range []int{0, 1, 32, 63, 64, 65, 127, 128, 129, 999, 1000} {
		want := libraryDerive(t, "secret", "salt", "purpose", n)
		if got, errno := missive.Derive("secret", "salt", "purpose", n); got != want || errno != api.OK {
			t.Errorf("P2: %d bytes: %x, %d", n, got, errno)
		}
	}
	for _, n := range []int{-1, -64, 1001, 1 << 40, math.MinInt, math.MaxInt} {
		if got, errno := missive.Derive("secret", "salt", "purpose", n); got != "" || errno != api.ErrSize {
			t.Errorf("P2: %d bytes: %x, %d", n, got, errno)
		}
	}
}

func TestDeriveSizes(t *testing.T) {
	sizes := []int{0, 1, 128, 129, 10000}
	for _, a := range sizes {
		for _, b := range sizes {
			for _, c := range sizes {
				secret, salt, purpose := sample(a), sample(b), sample(c)
				want := libraryDerive(t, secret, salt, purpose, 65)
				if got, errno := missive.Derive(secret, salt, purpose, 65); got != want || errno != api.OK {
					t.Errorf("P2: of %d, %d and %d bytes: %x, %d", a, b, c, got, errno)
				}
			}
		}
	}
}

func TestDeriveAtAllLimits(t *testing.T) {
	secret, salt, purpose := sample(10000), sample(10000), sample(10000)
	want := libraryDerive(t, secret, salt, purpose, 1000)
	if got, errno := missive.Derive(secret, salt, purpose, 1000); got != want || errno != api.OK {
		t.Errorf("P2: at all limits: %x, %d", got, errno)
	}
}

// Every way in which at least one of the four arguments is wrong.
func TestDeriveWrong(t *testing.T) {
	sizes := [2]int{10000, 10001}
	for _, n := range []int{-1, 0, 1000, 1001} {
		for ways := range 8 {
			if ways == 0 && n >= 0 && n <= 1000 {
				continue
			}
			a, b, c := sizes[ways&1], sizes[ways>>1&1], sizes[ways>>2&1]
			if got, errno := missive.Derive(sample(a), sample(b), sample(c), n); got != "" || errno != api.ErrSize {
				t.Errorf("P2: %d bytes of %d, %d and %d: %x, %d", n, a, b, c, got, errno)
			}
		}
	}
}

// P1: nothing is kept between calls, nor shared by calls at the same time.
func TestDigestsHangOnArgumentsAlone(t *testing.T) {
	var group sync.WaitGroup
	for worker := range 8 {
		group.Go(func() {
			for i := range 40 {
				data := sample(i*37 + worker)
				want := libraryDigest(data)
				missive.Digest(strings.Repeat("x", 10001))
				if got, _ := missive.Digest(data); got != want {
					t.Errorf("P1: Digest of %d bytes: %x, want %x", len(data), got, want)
				}
				wantMac := libraryMac(want, data)
				if got, _ := missive.Mac(want, data); got != wantMac {
					t.Errorf("P1: Mac of %d bytes: %x, want %x", len(data), got, wantMac)
				}
				first, _ := missive.Derive(data, want, "purpose", 100)
				again, _ := missive.Derive(data, want, "purpose", 100)
				if first != again || len(first) != 100 {
					t.Errorf("P1: Derive of %d bytes: %x, then %x", len(data), first, again)
				}
			}
		})
	}
	group.Wait()
}
