package letters

import (
	"strings"

	"missive/agree"
	"missive/api"
	"missive/cipher"
	"missive/sign"
)

// gaveUp is what a reading panics with when the letter is not to be read on.
type gaveUp struct{ reason api.Errno }

// The parts of a letter that has the form of one.
type parts struct {
	point     string
	shares    []string
	sender    string
	title     string
	closed    string
	signed    string
	signature string
}

// Open tells what a letter says to the reader with this secret (32 bytes).
func Open(secret string, letter string) (opened api.Letter, errno api.Errno) {
	defer func() {
		if why := recover(); why != nil {
			opened, errno = api.Letter{}, reasonOf(why)
		}
	}()
	read := partsOf(letter)
	read.checkSignature()
	inner, place := read.innerKey(secret)
	data := read.data(inner)
	// A piece of the letter would keep the whole of it.
	return api.Letter{Data: data, Sender: strings.Clone(read.sender), Place: place}, api.OK
}

// reasonOf tells why a reading has ended by panic.
func reasonOf(why any) api.Errno {
	if known, is := why.(gaveUp); is {
		return known.reason
	}
	// No reading panics otherwise. If one did, still no call may, and what was not read to its end is not to be taken.
	return api.ErrForm
}

// insist gives up, if what must hold does not.
func insist(holds bool, otherwise api.Errno) {
	if !holds {
		panic(gaveUp{otherwise})
	}
}

func (p parts) checkSignature() {
	insist(sign.Right(p.sender, p.signed, p.signature), api.ErrSign)
}

// innerKey is what the first share that can be unclosed with this secret holds, and the place of this share.
func (p parts) innerKey(secret string) (string, int) {
	agreed, useful := agree.Upon(secret, p.point)
	insist(useful, api.ErrPoint)
	key := shareKey(agreed, p.point, agree.Public(secret))
	for place, share := range p.shares {
		if inner, right := cipher.Unclose(key, nonce, "", share); right {
			return inner, place
		}
	}
	panic(gaveUp{api.ErrReader})
}

func (p parts) data(inner string) string {
	data, right := cipher.Unclose(dataKey(inner), nonce, p.title, p.closed)
	insist(right, api.ErrTag)
	return data
}
