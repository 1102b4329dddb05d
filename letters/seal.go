package letters

import (
	"missive/agree"
	"missive/api"
	"missive/cipher"
	"missive/sign"
)

// Seal makes the letter of a seed (32 bytes), one to eight readers, dice (64 bytes) and data, or tells what is wrong with the first reader that is none.
func Seal(seed string, readers []string, dice string, data string) (string, api.Errno) {
	secret, inner := dice[:api.KeySize], dice[api.KeySize:]
	point := agree.Public(secret)
	letter := mark + point + string([]byte{byte(len(readers))})
	for _, reader := range readers {
		share, errno := shareOf(reader, secret, point, inner)
		if errno != api.OK {
			return "", errno
		}
		letter += share
	}
	letter += sign.Identity(seed) + count(data)
	letter += cipher.Close(dataKey(inner), nonce, letter, data)
	return letter + sign.Of(seed, letter), api.OK
}

// shareOf closes the inner key for a reader.
func shareOf(reader string, secret string, point string, inner string) (string, api.Errno) {
	if len(reader) != api.KeySize {
		return "", api.ErrSize
	}
	agreed, useful := agree.Upon(secret, reader)
	if !useful {
		return "", api.ErrPoint
	}
	return cipher.Close(shareKey(agreed, point, reader), nonce, "", inner), api.OK
}

// count tells how many bytes there are, in 4 bytes.
func count(data string) string {
	var out [countSize]byte
	for i := range out {
		out[i] = byte(len(data) >> (8 * i))
	}
	return string(out[:])
}
