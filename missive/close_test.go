package missive_test

import (
	"encoding/hex"
	"math/big"
	"slices"
	"strings"
	"sync"
	"testing"

	"missive/api"
	"missive/missive"
)

// plainBlock is a block as the document words it, with whole numbers.
func plainBlock(key string, c uint64, nonce string) string {
	first := []uint64{1634760805, 857760878, 2036477234, 1797285236}
	for from := key; from != ""; from = from[4:] {
		first = append(first, plainNumber(from[:4]).Uint64())
	}
	first = append(first, c)
	for from := nonce; from != ""; from = from[4:] {
		first = append(first, plainNumber(from[:4]).Uint64())
	}
	words := slices.Clone(first)
	grow := func(a, b int) { words[a] = (words[a] + words[b]) % (1 << 32) }
	turn := func(a, b, n int) {
		words[a] ^= words[b]
		words[a] = words[a]<<n%(1<<32) + words[a]>>(32-n)
	}
	for range 10 {
		for _, q := range [][4]int{{0, 4, 8, 12}, {1, 5, 9, 13}, {2, 6, 10, 14}, {3, 7, 11, 15}, {0, 5, 10, 15}, {1, 6, 11, 12}, {2, 7, 8, 13}, {3, 4, 9, 14}} {
			for _, n := range [][2]int{{16, 12}, {8, 7}} {
				grow(q[0], q[1])
				turn(q[3], q[0], n[0])
				grow(q[2], q[3])
				turn(q[1], q[2], n[1])
			}
		}
	}
	var out strings.Builder
	for i, word := range words {
		out.WriteString(plainBytes(new(big.Int).SetUint64(word+first[i]), 4))
	}
	return out.String()
}

// plainNumber is the number of bytes, the lowest first.
func plainNumber(bytes string) *big.Int {
	turned := []byte(bytes)
	slices.Reverse(turned)
	return new(big.Int).SetBytes(turned)
}

// plainBytes tells the n lowest bytes of a number, the lowest first.
func plainBytes(number *big.Int, n int) string {
	out := new(big.Int).Mod(number, twoTo(uint(8*n))).FillBytes(make([]byte, n))
	slices.Reverse(out)
	return string(out)
}

func twoTo(exponent uint) *big.Int { return new(big.Int).Lsh(big.NewInt(1), exponent) }

// tagModulus is 2^130 - 5.
func tagModulus() *big.Int { return new(big.Int).Sub(twoTo(130), big.NewInt(5)) }

// plainR is the number that tags are multiplied by.
func plainR(tagKey string) *big.Int {
	left := []byte(tagKey[:16])
	for _, i := range []int{3, 7, 11, 15} {
		left[i] &= 15
	}
	for _, i := range []int{4, 8, 12} {
		left[i] &= 252
	}
	return plainNumber(string(left))
}

// plainSum is the number h of a tag, ahead of the growing by s.
func plainSum(tagKey, data string) *big.Int {
	h := new(big.Int)
	for piece := range slices.Chunk([]byte(data), 16) {
		h.Add(h, plainNumber(string(piece)))
		h.Add(h, twoTo(uint(8*len(piece))))
		h.Mul(h, plainR(tagKey))
		h.Mod(h, tagModulus())
	}
	return h
}

func plainFilled(data string) string {
	return data + strings.Repeat("\x00", (16-len(data)%16)%16)
}

func plainTagged(title, closed string) string {
	sizes := plainBytes(big.NewInt(int64(len(title))), 8) + plainBytes(big.NewInt(int64(len(closed))), 8)
	return plainFilled(title) + plainFilled(closed) + sizes
}

func plainClose(key, nonce, title, data string) string {
	closed := []byte(data)
	for i := range closed {
		if i%64 == 0 {
			with := plainBlock(key, uint64(i/64+1), nonce)
			for j := i; j < min(i+64, len(closed)); j++ {
				closed[j] ^= with[j-i]
			}
		}
	}
	tagKey := plainBlock(key, 0, nonce)[:32]
	h := plainSum(tagKey, plainTagged(title, string(closed)))
	return string(closed) + plainBytes(h.Add(h, plainNumber(tagKey[16:])), 16)
}

// checkClosing holds Close against what is asked for, and Unclose of it against the data.
func checkClosing(t *testing.T, key, nonce, title, data string) {
	t.Helper()
	want := plainClose(key, nonce, title, data)
	if got, errno := missive.Close(key, nonce, title, data); got != want || errno != api.OK {
		t.Errorf("P3: Close of %d bytes with a title of %d: %x, %d, want %x", len(data), len(title), got, errno, want)
	}
	if got, errno := missive.Unclose(key, nonce, title, want); got != data || errno != api.OK {
		t.Errorf("P3: Unclose of %d bytes with a title of %d: %x, %d", len(data), len(title), got, errno)
	}
}

// checkUnclose asks for an error, and an empty text beside it.
func checkUnclose(t *testing.T, key, nonce, title, closed string, want api.Errno) {
	t.Helper()
	if got, errno := missive.Unclose(key, nonce, title, closed); got != "" || errno != want {
		t.Errorf("P3: Unclose with %d, %d, %d and %d bytes: %x, %d, want %d", len(key), len(nonce), len(title), len(closed), got, errno, want)
	}
}

func TestCloseKnownAnswer(t *testing.T) {
	key, _ := hex.DecodeString("1c9240a5eb55d38af333888604f6b5f0473917c1402b80099dca5cbc207075c0")
	nonce, _ := hex.DecodeString("000000000102030405060708")
	title, _ := hex.DecodeString("f33388860000000000004e91")
	closed, _ := hex.DecodeString("64a0861575861af460f062c79be643bd5e805cfd345cf389f108670ac76c8cb24c6cfc18755d43eea09ee94e382d26b0bdb7b73c321b0100d4f03b7f355894cf332f830e710b97ce98c8a84abd0b948114ad176e008d33bd60f982b1ff37c8559797a06ef4f0ef61c186324e2b3506383606907b6a7c02b0f9f6157b53c867e4b9166c767b804d46a59b5216cde7a4e99040c5a40433225ee282a1b0a06c523eaf4534d7f83fa1155b0047718cbc546a0d072b04b3564eea1b422273f548271a0bb2316053fa76991955ebd63159434ecebb4e466dae5a1073a6727627097a1049e617d91d361094fa68f0ff77987130305beaba2eda04df997b714d6c6f2c29a6ad5cb4022b02709beead9d67890cbb22392336fea1851f38")
	data := "Internet-Drafts are draft documents valid for a maximum of six months and may be updated, replaced, or obsoleted by other documents at any time. It is inappropriate to use Internet-Drafts as reference material or to cite them other than as /\xe2\x80\x9cwork in progress./\xe2\x80\x9d"
	if got, errno := missive.Unclose(string(key), string(nonce), string(title), string(closed)); got != data || errno != api.OK {
		t.Errorf("P3: Unclose: %q, %d", got, errno)
	}
	if got, errno := missive.Close(string(key), string(nonce), string(title), data); got != string(closed) || errno != api.OK {
		t.Errorf("P3: Close: %x, %d", got, errno)
	}
}

func TestCloseSizes(t *testing.T) {
	sizes := []int{0, 1, 15, 16, 17, 31, 32, 33, 63, 64, 65, 127, 128, 129, 11999, 12000}
	for _, title := range sizes {
		for _, data := range sizes {
			checkClosing(t, sample(32), sample(12), sample(title), sample(data))
		}
	}
}

func TestCloseAllSmallSizes(t *testing.T) {
	for n := range 140 {
		checkClosing(t, sample(n + 32)[n:], sample(n + 12)[n:], sample(139-n), sample(n))
		checkClosing(t, strings.Repeat("\xff", 32), strings.Repeat("\xff", 12), strings.Repeat("\xff", n), strings.Repeat("\xff", 139-n))
		checkClosing(t, strings.Repeat("\x00", 32), strings.Repeat("\x00", 12), strings.Repeat("\x00", n), strings.Repeat("\x00", 139-n))
	}
}

// titleFor makes a title of which the tag's number h comes out, if no data is closed.
func titleFor(t *testing.T, tagKey string, h *big.Int) string {
	t.Helper()
	p, r := tagModulus(), plainR(tagKey)
	inverse := new(big.Int).ModInverse(r, p)
	const titleSize = 32
	// From the end to the start: ahead of the last product, ahead of the counts, ahead of the second product.
	back := new(big.Int).Mul(h, inverse)
	counts := plainTagged(strings.Repeat("\x00", titleSize), "")[titleSize:]
	back.Sub(back, plainNumber(counts)).Sub(back, twoTo(128))
	back.Mul(back, inverse)
	for try := range 1000 {
		first := sample(try + 16)[try:]
		second := new(big.Int).Sub(back, plainSum(tagKey, first))
		second.Sub(second, twoTo(128)).Mod(second, p)
		if second.Cmp(twoTo(128)) < 0 {
			return first + plainBytes(second, 16)
		}
	}
	t.Fatalf("no title for %x", h)
	return ""
}

func TestCloseWithTagsNearTheModulus(t *testing.T) {
	p := tagModulus()
	for _, key := range []string{sample(32), strings.Repeat("\xff", 32)} {
		tagKey := plainBlock(key, 0, sample(12))[:32]
		wrapping := new(big.Int).Sub(twoTo(128), plainNumber(tagKey[16:]))
		for _, about := range []*big.Int{new(big.Int), p, twoTo(128), twoTo(129), new(big.Int).Sub(p, twoTo(128)), wrapping} {
			for off := int64(-9); off <= 9; off++ {
				h := new(big.Int).Add(about, big.NewInt(off))
				h.Mod(h, p)
				title := titleFor(t, tagKey, h)
				if got := plainSum(tagKey, plainTagged(title, "")); got.Cmp(h) != 0 {
					t.Fatalf("the title gives %x, not %x", got, h)
				}
				checkClosing(t, key, sample(12), title, "")
			}
		}
	}
}

// The greatest numbers that can be tagged, in the title and in what was closed.
func TestCloseOfAllBitsSet(t *testing.T) {
	key, nonce, full := sample(32), sample(12), strings.Repeat("\xff", 12000)
	stream, errno := missive.Close(key, nonce, "", strings.Repeat("\x00", 12000))
	if errno != api.OK {
		t.Fatalf("P3: %d", errno)
	}
	data := []byte(stream[:12000])
	for i := range data {
		data[i] ^= 255
	}
	for _, n := range []int{16, 64, 320, 12000} {
		checkClosing(t, key, nonce, full[:n], string(data[:n]))
		if closed, _ := missive.Close(key, nonce, full, string(data[:n])); closed[:n] != full[:n] {
			t.Errorf("P3: what was closed are not bytes 255: %x", closed[:n])
		}
	}
}

func TestUncloseWithOneByteChanged(t *testing.T) {
	for _, n := range []int{0, 1, 15, 16, 17, 63, 64, 65} {
		args := [4]string{sample(32), sample(12), sample(21), ""}
		args[3] = plainClose(args[0], args[1], args[2], sample(n))
		for which, arg := range args {
			for i := range arg {
				for _, change := range []byte{1, 128, 255} {
					changed := []byte(arg)
					changed[i] ^= change
					wrong := args
					wrong[which] = string(changed)
					checkUnclose(t, wrong[0], wrong[1], wrong[2], wrong[3], api.ErrTag)
				}
			}
		}
	}
}

func TestUncloseOfOtherPieces(t *testing.T) {
	key, nonce, title := sample(32), sample(12), sample(16)
	closed := plainClose(key, nonce, title, sample(48))
	for _, wrong := range []string{closed[1:], closed[:63], closed + "\x00", "\x00" + closed, closed[:48], closed[48:], closed[:32] + closed[48:], closed + closed, closed[:48] + strings.Repeat("\x00", 16)} {
		checkUnclose(t, key, nonce, title, wrong, api.ErrTag)
	}
	for _, wrong := range []string{"", title[1:], title + "\x00", title + closed[:16]} {
		checkUnclose(t, key, nonce, wrong, closed, api.ErrTag)
	}
	checkUnclose(t, key, nonce, title+closed[:16], closed[16:], api.ErrTag)
}

func TestUncloseSizes(t *testing.T) {
	key, nonce := sample(32), sample(12)
	for _, n := range []int{0, 1, 15, 12017, 12018, 20000, 1 << 20} {
		checkUnclose(t, key, nonce, "", sample(n), api.ErrSize)
	}
	for _, n := range []int{16, 17, 31, 32, 12000, 12015, 12016} {
		checkUnclose(t, key, nonce, "", sample(n), api.ErrTag)
	}
	// Well closed by the cipher, but longer than any letter.
	checkUnclose(t, key, nonce, "", plainClose(key, nonce, "", sample(12001)), api.ErrSize)
	checkUnclose(t, key, nonce, sample(12001), plainClose(key, nonce, sample(12001), "data"), api.ErrSize)
}

// Every way in which at least one size is wrong, alone and with others; the tags are wrong too.
func TestWrongSizesOfClosing(t *testing.T) {
	right := func(n int, sizes ...int) bool { return slices.Contains(sizes, n) }
	for _, key := range []int{0, 31, 32, 33, 64} {
		for _, nonce := range []int{0, 11, 12, 13, 24} {
			for _, title := range []int{0, 12000, 12001} {
				lock := right(key, 32) && right(nonce, 12) && right(title, 0, 12000)
				for _, data := range []int{0, 12000, 12001} {
					if lock && right(data, 0, 12000) {
						continue
					}
					if got, errno := missive.Close(sample(key), sample(nonce), sample(title), sample(data)); got != "" || errno != api.ErrSize {
						t.Errorf("P3: Close with %d, %d, %d and %d bytes: %x, %d", key, nonce, title, data, got, errno)
					}
				}
				for _, closed := range []int{0, 15, 16, 12016, 12017} {
					want := api.ErrSize
					if lock && right(closed, 16, 12016) {
						want = api.ErrTag
					}
					checkUnclose(t, sample(key), sample(nonce), sample(title), sample(closed), want)
				}
			}
		}
	}
}

// P1: nothing is kept between calls, nor shared by calls at the same time.
func TestClosingHangsOnArgumentsAlone(t *testing.T) {
	var group sync.WaitGroup
	for worker := range 8 {
		group.Go(func() {
			for i := range 30 {
				key, data := sample(i + worker + 32)[i+worker:], sample(i*37+worker)
				missive.Close(sample(32), sample(12), "another", data)
				missive.Unclose(sample(32), sample(12), "another", data)
				checkClosing(t, key, sample(12), "title", data)
			}
		})
	}
	group.Wait()
}
