// Package sign tells identities, makes signatures, and tells whether one is right. It checks no sizes.
package sign

import (
	"missive/agree"
	"missive/curve"
	"missive/digest"
	"missive/scalar"
)

// A signer is what becomes of a seed.
type signer struct {
	secret   scalar.Number
	rest     string
	identity string
}

// Identity is the identity of a seed of 32 bytes.
func Identity(seed string) string { return signerOf(seed).identity }

// Of is the signature of data by a seed of 32 bytes.
func Of(seed string, data string) string {
	by := signerOf(seed)
	once := scalar.Of(digest.Of(by.rest + data))
	first := curve.Base().Times(once).Bytes()
	last := once.Plus(tie(first, by.identity, data).Times(by.secret))
	return first + last.Bytes()
}

// Right tells whether a signature (64 bytes) of data is right for an identity (32 bytes).
func Right(identity string, data string, signature string) bool {
	point, found := curve.Of(identity)
	if !found {
		return false
	}
	first, last := signature[:curve.Size], signature[curve.Size:]
	number := scalar.Of(last)
	// From Q on it was brought below Q, and its bytes are others now.
	if number.Bytes() != last {
		return false
	}
	less := point.Times(tie(first, identity, data)).Negated()
	return curve.Base().Times(number).Plus(less).Bytes() == first
}

func signerOf(seed string) signer {
	sum := digest.Of(seed)
	// Q times B is (0, 1): modulo Q the secret makes the same identity, and the same signatures.
	secret := scalar.Of(agree.Changed(sum[:scalar.Size]))
	return signer{secret, sum[scalar.Size:], curve.Base().Times(secret).Bytes()}
}

// tie is the number that ties a signature to its first half, the identity and the data.
func tie(first string, identity string, data string) scalar.Number {
	return scalar.Of(digest.Of(first + identity + data))
}
