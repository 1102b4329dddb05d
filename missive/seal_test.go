package missive_test

import (
	"crypto/ed25519"
	"encoding/hex"
	"math/big"
	"slices"
	"strings"
	"sync"
	"testing"
	"unsafe"

	"missive/api"
	"missive/missive"
)

// A draft is a letter in its parts, but for the signature: any part may be made wrong ahead of the signing.
type draft struct {
	mark, point, readers string
	shares               []string
	sender, count        string
	closed               string
}

func fourBytes(n int64) string { return plainBytes(big.NewInt(n), 4) }

func (d draft) title() string {
	return d.mark + d.point + d.readers + strings.Join(d.shares, "") + d.sender + d.count
}

// holding is the draft with this data, closed with the key of these 32 bytes and with all ahead of it as title.
func (d draft) holding(t *testing.T, inner, data string) draft {
	t.Helper()
	d.count = fourBytes(int64(len(data)))
	d.closed = plainClose(libraryDerive(t, inner, "", "missive body", 32), strings.Repeat("\x00", 12), d.title(), data)
	return d
}

// signedBy is the letter that the draft becomes with a signature by this seed, whoever it names as the sender.
func (d draft) signedBy(seed string) string {
	signed := d.title() + d.closed
	return signed + librarySign(seed, signed)
}

func librarySign(seed, data string) string {
	return string(ed25519.Sign(ed25519.NewKeyFromSeed([]byte(seed)), []byte(data)))
}

func libraryIdentity(seed string) string {
	return string(ed25519.NewKeyFromSeed([]byte(seed))[32:])
}

// plainPublic is the public key of a secret.
func plainPublic(secret string) string { return plainAgree(secret, withByte(repeated(0), 0, 9)) }

// plainShare is what a letter with this point holds for a reader: the inner key, closed.
func plainShare(t *testing.T, agreed, point, reader, inner string) string {
	t.Helper()
	return plainClose(libraryDerive(t, agreed, point+reader, "missive key", 32), strings.Repeat("\x00", 12), "", inner)
}

// plainDraft is a letter as the document words it.
func plainDraft(t *testing.T, seed string, readers []string, dice, data string) draft {
	t.Helper()
	e, f := dice[:32], dice[32:]
	d := draft{mark: "MV1", point: plainPublic(e), readers: string([]byte{byte(len(readers))}), sender: libraryIdentity(seed)}
	for _, reader := range readers {
		d.shares = append(d.shares, plainShare(t, plainAgree(e, reader), d.point, reader, f))
	}
	return d.holding(t, f, data)
}

// secretOf and keyOf: some readers, by number.
func secretOf(number int) string { return repeated(byte('A' + number)) }

func keyOf(number int) string { return plainPublic(secretOf(number)) }

func keysOf(n int) []string {
	out := make([]string, n)
	for i := range out {
		out[i] = keyOf(i)
	}
	return out
}

func checkSeal(t *testing.T, seed string, readers []string, dice, data string) string {
	t.Helper()
	want := plainDraft(t, seed, readers, dice, data).signedBy(seed)
	got, errno := missive.Seal(seed, readers, dice, data)
	if got != want || errno != api.OK {
		t.Errorf("P6: Seal of %d bytes to %d readers: %x, %d, want %x", len(data), len(readers), got, errno, want)
	}
	return want
}

// checkNoLetter asks for an error, and an empty text beside it.
func checkNoLetter(t *testing.T, seed string, readers []string, dice, data string, want api.Errno) {
	t.Helper()
	if got, errno := missive.Seal(seed, readers, dice, data); got != "" || errno != want {
		t.Errorf("P6: Seal(%d bytes, %x, %d bytes, %d bytes) = %x, %d, want %d", len(seed), readers, len(dice), len(data), got, errno, want)
	}
}

// What another program made of the same.
func TestSealKnownAnswers(t *testing.T) {
	seed, dice := repeated('s'), repeated('d')+repeated('f')
	want := fromHex(t, "4d56316b3d57762f8badb69433f9c6d060f85f5e5c6b6803a816d141c075f63541ad1002eea920f77f5dd4db0f51660c99fb31b942372853f893cbbc899858175dae5a4cb457541ad199b9724c3f384acba4cd7684960d3de1f82dd739738d4c6c616ef1ab59fee78bb180ccc5bace6f9694dada9238e3fa02e9ba7d84bf41190df62bf0fec1428673f6afe89264b3807344ae8b269d125a503855202687db5a7128579f0c0000009e38a1861c1188df87b3f7840413dc62e4ea336821b258a815293ed103e797e6a6e574ea35ec8fa16ee5ce015aef4134af75071d95397f0e5564a8e6ad25b6d03a0f6c754e8de736f1f1c0088a4b7c74459820c94306e4340244240c")
	readers := []string{plainPublic(repeated('a')), plainPublic(repeated('b'))}
	if got, errno := missive.Seal(seed, readers, dice, "what it says"); got != want || errno != api.OK {
		t.Errorf("P6: %x, %d", got, errno)
	}
	var all strings.Builder
	for n := 1; n <= 8; n++ {
		for _, size := range []int{0, 1, 100, 10000} {
			letter, errno := missive.Seal(sample(32), keysOf(n), sample(64), sample(size))
			if errno != api.OK {
				t.Errorf("P6: of %d bytes to %d readers: %d", size, n, errno)
			}
			all.WriteString(letter)
		}
	}
	const digest = "d8f232d5d9ecb20d30e833c761219e4b53cb8e8c29082d905f83f018e155c3f60e6252f8f6a344b31a973afde8d35172bfe472e6b8da281b8e076884f26cd977"
	if got := hex.EncodeToString([]byte(libraryDigest(all.String()))); got != digest {
		t.Errorf("P6: the digest of them all is %s", got)
	}
}

func TestSealAsTheDocumentWordsIt(t *testing.T) {
	for _, n := range []int{1, 2, 3, 5, 7, 8} {
		for _, size := range []int{0, 1, 15, 16, 17, 63, 64, 65, 255, 256, 257, 9999, 10000} {
			checkSeal(t, sample(n + 32)[n:], keysOf(n), sample(n + 64)[n:], sample(size))
		}
	}
	for _, text := range []string{repeated(0), repeated(255)} {
		checkSeal(t, text, keysOf(2), text+text, text)
	}
}

// Byte by byte, at the places that the document's order gives.
func TestPlacesOfALetter(t *testing.T) {
	seed, dice := sample(32), repeated('e')+repeated('f')
	nonce := strings.Repeat("\x00", 12)
	for _, n := range []int{1, 2, 8} {
		for _, size := range []int{0, 1, 300, 10000} {
			letter, errno := missive.Seal(seed, keysOf(n), dice, sample(size))
			at := 36 + 48*n
			if errno != api.OK || len(letter) != at+36+size+16+64 {
				t.Fatalf("P6: of %d bytes to %d readers: %d bytes, %d", size, n, len(letter), errno)
			}
			same := func(what string, from, to int, want string) {
				if got := letter[from:to]; got != want {
					t.Errorf("P6: of %d bytes to %d readers: %s: %x, want %x", size, n, what, got, want)
				}
			}
			point := plainPublic(repeated('e'))
			same("the first letters", 0, 3, "MV1")
			same("E", 3, 35, point)
			same("how many readers", 35, 36, string([]byte{byte(n)}))
			for i := range n {
				agreed := plainAgree(secretOf(i), point)
				same("a reader's bytes", 36+48*i, 84+48*i, plainShare(t, agreed, point, keyOf(i), repeated('f')))
			}
			same("the sender", at, at+32, libraryIdentity(seed))
			same("how many bytes", at+32, at+36, string([]byte{byte(size), byte(size >> 8), 0, 0}))
			key := libraryDerive(t, repeated('f'), "", "missive body", 32)
			same("the data", at+36, at+52+size, plainClose(key, nonce, letter[:at+36], sample(size)))
			if !ed25519.Verify([]byte(letter[at:at+32]), []byte(letter[:at+52+size]), []byte(letter[at+52+size:])) {
				t.Errorf("P6: of %d bytes to %d readers: the signature is not right", size, n)
			}
		}
	}
}

func TestWrongSizesOfSealing(t *testing.T) {
	for _, n := range []int{0, 1, 31, 33, 64} {
		checkNoLetter(t, sample(n), keysOf(2), sample(64), "data", api.ErrSize)
	}
	for _, n := range []int{0, 1, 32, 63, 65, 128} {
		checkNoLetter(t, sample(32), keysOf(2), sample(n), "data", api.ErrSize)
	}
	for _, n := range []int{10001, 10002, 12000, 12001, 20001, 1 << 20} {
		checkNoLetter(t, sample(32), keysOf(2), sample(64), sample(n), api.ErrSize)
	}
}

func TestHowManyReaders(t *testing.T) {
	checkNoLetter(t, sample(32), nil, sample(64), "data", api.ErrMany)
	checkNoLetter(t, sample(32), []string{}, sample(64), "data", api.ErrMany)
	checkNoLetter(t, sample(32), keysOf(8)[:0], sample(64), "data", api.ErrMany)
	for _, n := range []int{9, 10, 255, 256, 257, 264, 1000} {
		checkNoLetter(t, sample(32), slices.Repeat(keysOf(1), n), sample(64), "data", api.ErrMany)
	}
}

// readerKinds are readers, and the error that each is answered with.
func readerKinds() map[string]api.Errno {
	return map[string]api.Errno{
		keyOf(0):                            api.OK,
		keyOf(1)[:31]:                       api.ErrSize,
		keyOf(1) + "\x00":                   api.ErrSize,
		"":                                  api.ErrSize,
		strings.Repeat("\x00", 31):          api.ErrSize,
		strings.Repeat("\x00", 33):          api.ErrSize,
		repeated(0):                         api.ErrPoint,
		withByte(repeated(0), 0, 1):         api.ErrPoint,
		plainBytes(fieldModulus(), 32):      api.ErrPoint,
		withByte(repeated(0), 31, 128):      api.ErrPoint,
		plainBytes(big.NewInt(2), 32):       api.OK,
		withByte(keyOf(0), 31, 128):         api.OK,
		plainBytes(twoTo(255), 32) + "\x00": api.ErrSize,
		strings.Repeat(keyOf(0), 2):         api.ErrSize,
		strings.Repeat(keyOf(0), 400):       api.ErrSize,
	}
}

// All lists of three kinds, with each of a list's errors behind and ahead of each other: the first one is the answer.
func TestFirstWrongReader(t *testing.T) {
	kinds := readerKinds()
	var names []string
	for name := range kinds {
		names = append(names, name)
	}
	slices.Sort(names)
	for _, a := range names {
		for _, b := range names {
			for _, c := range names {
				readers := []string{a, b, c}
				want := api.OK
				for _, reader := range slices.Backward(readers) {
					if kinds[reader] != api.OK {
						want = kinds[reader]
					}
				}
				got, errno := missive.Seal(sample(32), readers, sample(64), "data")
				if errno != want || (got == "") != (want != api.OK) {
					t.Errorf("P6: to %x: %d bytes, %d, want %d", readers, len(got), errno, want)
				}
			}
		}
	}
}

// Each point of few multiples, however it is spelt, is refused, at each place.
func TestReadersOfFewMultiples(t *testing.T) {
	keys := keysOf(8)
	for _, number := range pointsOfFew(t) {
		for _, point := range spellings(number) {
			for place := range 8 {
				readers := slices.Clone(keys)
				readers[place] = point
				checkNoLetter(t, sample(32), readers, sample(64), "data", api.ErrPoint)
			}
			checkNoLetter(t, sample(32), []string{point}, sample(64), "", api.ErrPoint)
		}
	}
}

// Every way in which arguments are wrong together: sizes go ahead of how many there are, and this ahead of who they are.
func TestOrderOfErrorsOfSealing(t *testing.T) {
	many := slices.Repeat(keysOf(1), 9)
	manyWrong := append([]string{"short", repeated(0)}, keysOf(7)...)
	for ways := range 8 {
		seed, dice, data := sample(32-ways&1), sample(64+ways>>1&1), sample(10000+ways>>2)
		for _, c := range []struct {
			readers []string
			errno   api.Errno
		}{{keysOf(1), api.OK}, {nil, api.ErrMany}, {many, api.ErrMany}, {manyWrong, api.ErrMany}, {[]string{"short"}, api.ErrSize}, {[]string{repeated(0)}, api.ErrPoint}, {manyWrong[:8], api.ErrSize}, {manyWrong[1:], api.ErrPoint}} {
			want := c.errno
			if ways > 0 {
				want = api.ErrSize
			}
			if want == api.OK {
				continue
			}
			checkNoLetter(t, seed, c.readers, dice, data, want)
		}
	}
}

func TestReaderNamedTwice(t *testing.T) {
	readers := []string{keyOf(0), keyOf(1), keyOf(0), keyOf(1), keyOf(1)}
	letter := checkSeal(t, sample(32), readers, sample(64), "data")
	if letter[36:84] != letter[132:180] || letter[84:132] != letter[180:228] {
		t.Errorf("P6: the same reader has other bytes: %x", letter)
	}
	checkOpen(t, secretOf(0), letter, api.Letter{Data: "data", Sender: libraryIdentity(sample(32)), Place: 0})
	checkOpen(t, secretOf(1), letter, api.Letter{Data: "data", Sender: libraryIdentity(sample(32)), Place: 1})
}

// The highest bit changes nothing of what is agreed upon, but stands in the salt: who opens has it not.
func TestReadersWithTheHighestBit(t *testing.T) {
	plain, turned := keyOf(3), withByte(keyOf(3), 31, 128)
	letter := checkSeal(t, sample(32), []string{plain, turned}, sample(64), "data")
	if letter[36:84] == letter[84:132] {
		t.Errorf("P6: the highest bit does not count in the salt: %x", letter)
	}
	checkOpen(t, secretOf(3), letter, api.Letter{Data: "data", Sender: libraryIdentity(sample(32)), Place: 0})
	letter = checkSeal(t, sample(32), []string{turned, plain}, sample(64), "data")
	checkOpen(t, secretOf(3), letter, api.Letter{Data: "data", Sender: libraryIdentity(sample(32)), Place: 1})
	letter = checkSeal(t, sample(32), []string{turned}, sample(64), "data")
	checkNotOpen(t, secretOf(3), letter, api.ErrReader)
	// Numbers from p on are handed in otherwise than they are told, too.
	for n := int64(2); n < 19; n++ {
		checkSeal(t, sample(32), spellings(big.NewInt(n)), sample(64), "data")
	}
}

// The bits of e that do not count leave the whole letter as it is; each bit of f changes it.
func TestBitsOfDice(t *testing.T) {
	readers := keysOf(2)
	seal := func(dice string) string {
		letter, errno := missive.Seal(sample(32), readers, dice, "data")
		if errno != api.OK {
			t.Fatalf("P6: %d", errno)
		}
		return letter
	}
	letter := seal(sample(64))
	for bit := range 512 {
		other := seal(withByte(sample(64), bit/8, 1<<(bit%8)))
		alike := bit < 3 || bit == 254 || bit == 255
		if (other == letter) != alike || (other[3:35] == letter[3:35]) != (alike || bit >= 256) {
			t.Errorf("P6: with the bit %d of the dice turned: %x, else %x", bit, other, letter)
		}
	}
}

// P1: the list, what stands behind it and ahead of it stay as they are, and are not asked again.
func TestReadersAreNotChangedNorKept(t *testing.T) {
	for _, sealed := range []func(readers []string) (string, api.Errno){
		func(readers []string) (string, api.Errno) {
			return missive.Seal(sample(32), readers, sample(64), "data")
		},
		func(readers []string) (string, api.Errno) {
			return missive.Seal(sample(31), readers, sample(64), "data")
		},
		func(readers []string) (string, api.Errno) {
			return missive.Seal(sample(32), readers, sample(63), "data")
		},
	} {
		array := append(keysOf(5), repeated(0), "short", "")
		for from := range array {
			for to := from; to <= len(array); to++ {
				before := slices.Clone(array)
				letter, errno := sealed(array[from:to])
				if !slices.Equal(array, before) {
					t.Fatalf("P1: the readers %d to %d are %x, were %x", from, to, array, before)
				}
				told := strings.Clone(letter)
				again, errnoAgain := sealed(array[from:to:to])
				for i := range array {
					array[i] = "other"
				}
				if letter != told || again != told || errno != errnoAgain {
					t.Errorf("P1: to the readers %d to %d: %x, %d, then %x, %d", from, to, letter, errno, again, errnoAgain)
				}
				copy(array, before)
			}
		}
	}
}

// apart tells whether two texts share no memory.
func apart(a, b string) bool {
	if a == "" || b == "" {
		return true
	}
	startA, startB := uintptr(unsafe.Pointer(unsafe.StringData(a))), uintptr(unsafe.Pointer(unsafe.StringData(b)))
	return startA+uintptr(len(a)) <= startB || startB+uintptr(len(b)) <= startA
}

// P1: nothing is kept between calls, nor shared by calls at the same time.
func TestLettersHangOnArgumentsAlone(t *testing.T) {
	readers := keysOf(3)
	var group sync.WaitGroup
	for worker := range 8 {
		group.Go(func() {
			for i := range 4 {
				seed, dice, data := sample(i + worker + 32)[i+worker:], sample(i + worker + 64)[i+worker:], sample(i*37+worker)
				missive.Seal(sample(32), readers[:1], sample(64), "another")
				missive.Seal(sample(32), []string{repeated(0)}, sample(64), "another")
				letter := checkSeal(t, seed, readers, dice, data)
				checkNotOpen(t, secretOf(0), letter[1:], api.ErrForm)
				for place := range readers {
					checkOpen(t, secretOf(place), letter, api.Letter{Data: data, Sender: libraryIdentity(seed), Place: place})
				}
				checkNotOpen(t, secretOf(5), letter, api.ErrReader)
			}
		})
	}
	group.Wait()
}
