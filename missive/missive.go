// Package missive: letters that only some can read, and one can have written: see DOC.md.
package missive

import (
	"missive/agree"
	"missive/api"
	"missive/cipher"
	"missive/digest"
	"missive/letters"
	"missive/lines"
	"missive/sign"
)

// Digest tells a digest (P2).
func Digest(data string) (string, api.Errno) {
	if tooLong(api.MaxData, data) {
		return "", api.ErrSize
	}
	return digest.Of(data), api.OK
}

// Mac tells a mac (P2).
func Mac(key string, data string) (string, api.Errno) {
	if tooLong(api.MaxData, key, data) {
		return "", api.ErrSize
	}
	return digest.Mac(key, data), api.OK
}

// Derive derives bytes (P2).
func Derive(secret string, salt string, purpose string, n int) (string, api.Errno) {
	if tooLong(api.MaxData, secret, salt, purpose) || n < 0 || n > api.MaxDerived {
		return "", api.ErrSize
	}
	return digest.Derive(secret, salt, purpose, n), api.OK
}

// Close closes data (P3).
func Close(key string, nonce string, title string, data string) (string, api.Errno) {
	if cannotClose(key, nonce, title) || tooLong(api.MaxLetter, data) {
		return "", api.ErrSize
	}
	return cipher.Close(key, nonce, title, data), api.OK
}

// Unclose tells what was closed (P3).
func Unclose(key string, nonce string, title string, closed string) (string, api.Errno) {
	if cannotClose(key, nonce, title) || len(closed) < api.TagSize || tooLong(api.MaxLetter+api.TagSize, closed) {
		return "", api.ErrSize
	}
	data, right := cipher.Unclose(key, nonce, title, closed)
	if !right {
		return "", api.ErrTag
	}
	return data, api.OK
}

// Public tells a public key (P4).
func Public(secret string) (string, api.Errno) {
	if notKeys(secret) {
		return "", api.ErrSize
	}
	return agree.Public(secret), api.OK
}

// Agree tells what two agree upon (P4).
func Agree(secret string, point string) (string, api.Errno) {
	if notKeys(secret, point) {
		return "", api.ErrSize
	}
	agreed, useful := agree.Upon(secret, point)
	if !useful {
		return "", api.ErrPoint
	}
	return agreed, api.OK
}

// Identity tells an identity (P5).
func Identity(seed string) (string, api.Errno) {
	if notKeys(seed) {
		return "", api.ErrSize
	}
	return sign.Identity(seed), api.OK
}

// Sign signs data (P5).
func Sign(seed string, data string) (string, api.Errno) {
	if notKeys(seed) || tooLong(api.MaxLetter, data) {
		return "", api.ErrSize
	}
	return sign.Of(seed, data), api.OK
}

// Verify tells whether a signature is right (P5).
func Verify(identity string, data string, signature string) bool {
	if notKeys(identity) || tooLong(api.MaxLetter, data) || len(signature) != api.SignSize {
		return false
	}
	return sign.Right(identity, data, signature)
}

// Seal seals a letter (P6).
func Seal(seed string, readers []string, dice string, data string) (string, api.Errno) {
	if notKeys(seed) || len(dice) != api.DiceSize || tooLong(api.MaxData, data) {
		return "", api.ErrSize
	}
	if len(readers) == 0 || len(readers) > api.MaxReaders {
		return "", api.ErrMany
	}
	return letters.Seal(seed, readers, dice, data)
}

// Open opens a letter (P7).
func Open(secret string, letter string) (api.Letter, api.Errno) {
	if notKeys(secret) {
		return api.Letter{}, api.ErrSize
	}
	return letters.Open(secret, letter)
}

// Write writes a letter as a text (P8).
func Write(bytes string) (string, api.Errno) {
	if tooLong(api.MaxLetter, bytes) {
		return "", api.ErrSize
	}
	return lines.Write(bytes), api.OK
}

// Read reads a letter's text (P8).
func Read(text string) (string, int, api.Errno) {
	if tooLong(api.MaxText, text) {
		return "", 0, api.ErrSize
	}
	bytes, line, right := lines.Read(text)
	if !right {
		return "", line, api.ErrText
	}
	if tooLong(api.MaxLetter, bytes) {
		return "", 0, api.ErrSize
	}
	return bytes, 0, api.OK
}

// cannotClose tells whether the size of one of them is such that no data is closed with it.
func cannotClose(key string, nonce string, title string) bool {
	return notKeys(key) || len(nonce) != api.NonceSize || tooLong(api.MaxLetter, title)
}

// notKeys tells whether one of the texts has not the size of a key.
func notKeys(texts ...string) bool {
	for _, text := range texts {
		if len(text) != api.KeySize {
			return true
		}
	}
	return false
}

// tooLong tells whether one of the texts has more bytes than the limit.
func tooLong(limit int, texts ...string) bool {
	for _, text := range texts {
		if len(text) > limit {
			return true
		}
	}
	return false
}
