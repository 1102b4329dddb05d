// Package letters seals letters, and opens them. Of what it is handed it checks only the readers and the letter itself.
package letters

import (
	"missive/api"
	"missive/digest"
)

const (
	mark = "MV1"
	// Where dice are thrown anew, each key closes one thing alone: one nonce does for all.
	nonce = "\x00\x00\x00\x00\x00\x00\x00\x00\x00\x00\x00\x00"
	// What a letter holds for each reader: the inner key, closed.
	shareSize = api.KeySize + api.TagSize
	countSize = 4
)

// shareKey is the key that a share is closed with, of what the letter's point and the reader's agreed upon.
func shareKey(agreed string, point string, reader string) string {
	return digest.Derive(agreed, point+reader, "missive key", api.KeySize)
}

// dataKey is the key that the data is closed with.
func dataKey(inner string) string {
	return digest.Derive(inner, "", "missive body", api.KeySize)
}
