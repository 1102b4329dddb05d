package digest

import (
	"crypto/hkdf"
	"crypto/hmac"
	"crypto/sha512"
	"encoding/hex"
	"strings"
	"testing"
)

func libraryMac(key, data string) string {
	h := hmac.New(sha512.New, []byte(key))
	h.Write([]byte(data))
	return string(h.Sum(nil))
}

func TestMacKnownAnswers(t *testing.T) {
	for _, c := range []struct{ key, data, want string }{
		{strings.Repeat("\x0b", 20), "Hi There", "87aa7cdea5ef619d4ff0b4241a1d6cb02379f4e2ce4ec2787ad0b30545e17cdedaa833b7d6b8a702038b274eaea3f4e4be9d914eeb61f1702e696c203a126854"},
		{"Jefe", "what do ya want for nothing?", "164b7a7bfcf819e2e395fbe73b56e0a387bd64222e831fd610270cd7ea2505549758bf75c05a994a6d034f65f8f0e6fdcaeab1a34d4a6b4b636e070a38bce737"},
		{strings.Repeat("\xaa", 131), "Test Using Larger Than Block-Size Key - Hash Key First", "80b24263c7c1a3ebb71493c1dd7be8b49b46d1f41b4aeec1121b013783f8f3526b56d037e05f2598bd0fd2215d6a1e5295e64f73f63f0aec8b915a985d786598"},
	} {
		if got := hex.EncodeToString([]byte(Mac(c.key, c.data))); got != c.want {
			t.Errorf("of %q: %s, want %s", c.data, got, c.want)
		}
	}
}

func TestMacAllKeyLengths(t *testing.T) {
	for n := range 2*blockSize + 2 {
		key, data := sample(n), sample(2*blockSize-n+5)
		if got, want := Mac(key, data), libraryMac(key, data); got != want {
			t.Fatalf("by a key of %d bytes: %x, want %x", n, got, want)
		}
	}
}

func TestDeriveAllCounts(t *testing.T) {
	for n := range 1001 {
		secret, salt, purpose := sample(n%50), sample(n%140), sample(n%20)
		want, err := hkdf.Key(sha512.New, []byte(secret), []byte(salt), purpose, n)
		if err != nil {
			t.Fatal(err)
		}
		if got := Derive(secret, salt, purpose, n); got != string(want) {
			t.Fatalf("%d bytes: %x, want %x", n, got, want)
		}
	}
}

func TestDeriveUpToTheLastNumber(t *testing.T) {
	n := 255 * len(Of(""))
	want, err := hkdf.Key(sha512.New, []byte("secret"), []byte("salt"), "purpose", n)
	if err != nil {
		t.Fatal(err)
	}
	if Derive("secret", "salt", "purpose", n) != string(want) {
		t.Error("differs from the library")
	}
}
