package sign

import (
	"crypto/ed25519"
	"crypto/sha512"
	"encoding/hex"
	"math/big"
	"slices"
	"strings"
	"testing"
)

func fromHex(t *testing.T, digits string) string {
	t.Helper()
	out, err := hex.DecodeString(digits)
	if err != nil {
		t.Fatal(err)
	}
	return string(out)
}

func TestKnownAnswer(t *testing.T) {
	seed := fromHex(t, "c5aa8df43f9f837bedb7442f31dcb7b166d38535076f094b85ce3a2e0b4458f7")
	identity := fromHex(t, "fc51cd8e6218a1a38da47ed00230f0580816ed13ba3303ac5deb911548908025")
	signature := fromHex(t, "6291d657deec24024827e69c3abe01a30ce548a284743a445e3680d7db5ac3ac18ff9b538d16f290ae67f760984dc6594a7c15e9716ed28dc027beceea1ec40a")
	if got := Identity(seed); got != identity {
		t.Errorf("identity: %x", got)
	}
	if got := Of(seed, "\xaf\x82"); got != signature {
		t.Errorf("signature: %x", got)
	}
	if !Right(identity, "\xaf\x82", signature) || Right(identity, "\xaf\x83", signature) {
		t.Error("Right tells otherwise")
	}
}

// The secret is that of the seed's digest, modulo Q, and the rest its last 32 bytes as they are.
func TestSignerOf(t *testing.T) {
	order, _ := new(big.Int).SetString("27742317777372353535851937790883648493", 10)
	order.Add(order, new(big.Int).Lsh(big.NewInt(1), 252))
	for n := range 32 {
		seed := strings.Repeat(string([]byte{byte(n)}), 32)
		sum := sha512.Sum512([]byte(seed))
		by := signerOf(seed)
		if by.rest != string(sum[32:]) {
			t.Errorf("rest of %x: %x", seed, by.rest)
		}
		key := sum[:32]
		key[0] &= 248
		key[31] = key[31]&127 | 64
		slices.Reverse(key)
		want := new(big.Int).SetBytes(key)
		got := []byte(by.secret.Bytes())
		slices.Reverse(got)
		if want.Mod(want, order).Cmp(new(big.Int).SetBytes(got)) != 0 {
			t.Errorf("secret of %x: %x, want %x", seed, got, want)
		}
	}
}

func TestAsOthersDo(t *testing.T) {
	for n := range 40 {
		seed, data := strings.Repeat(string([]byte{byte(255 - n)}), 32), strings.Repeat("d", 13*n)
		key := ed25519.NewKeyFromSeed([]byte(seed))
		want := string(ed25519.Sign(key, []byte(data)))
		if got := Of(seed, data); got != want || Identity(seed) != string(key[32:]) {
			t.Errorf("of %x: %x, want %x", seed, got, want)
		}
		if !Right(Identity(seed), data, want) {
			t.Errorf("of %x: not right", seed)
		}
	}
}
