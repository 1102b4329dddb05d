package missive_test

import (
	"math/big"
	"slices"
	"strings"
	"testing"

	"missive/api"
	"missive/missive"
)

func checkOpen(t *testing.T, secret, letter string, want api.Letter) {
	t.Helper()
	got, errno := missive.Open(secret, letter)
	if got != want || errno != api.OK {
		t.Errorf("P7: Open(%x, %x) = %v, %d, want %v", secret, letter, got, errno, want)
	}
	if !apart(got.Sender, letter) || !apart(got.Data, letter) || !apart(got.Data, got.Sender) {
		t.Errorf("P1: what is told stands in the letter's own memory")
	}
}

// checkNotOpen asks for an error, and nothing beside it.
func checkNotOpen(t *testing.T, secret, letter string, want api.Errno) {
	t.Helper()
	if got, errno := missive.Open(secret, letter); got != (api.Letter{}) || errno != want {
		t.Errorf("P7: Open(%x, %x) = %v, %d, want %d", secret, letter, got, errno, want)
	}
}

// ordinary is a letter of sample(32) to two readers, which says "data", and its draft. Its inner key are 32 letters f.
func ordinary(t *testing.T) (draft, string) {
	t.Helper()
	d := plainDraft(t, sample(32), keysOf(2), repeated('e')+repeated('f'), "data")
	return d, d.signedBy(sample(32))
}

func (d draft) clone() draft {
	d.shares = slices.Clone(d.shares)
	return d
}

// anew is a letter with a signature by this seed in place of its own.
func anew(letter, seed string) string {
	signed := letter[:len(letter)-64]
	return signed + librarySign(seed, signed)
}

// P9: every reader opens, and is told the data, the sender, and its own place.
func TestEveryReaderOpens(t *testing.T) {
	keys := keysOf(8)
	for n := 1; n <= 8; n++ {
		for _, size := range []int{0, 1, 16, 77, 9999, 10000} {
			seed := sample(n + size + 32)[n+size:]
			letter, errno := missive.Seal(seed, keys[:n], sample(64), sample(size))
			if errno != api.OK {
				t.Fatalf("P6: %d", errno)
			}
			for place := range n {
				checkOpen(t, secretOf(place), letter, api.Letter{Data: sample(size), Sender: libraryIdentity(seed), Place: place})
			}
			checkNotOpen(t, secretOf(n), letter, api.ErrReader)
		}
	}
}

// As Seal and Open might be wrong alike, these letters are made without Seal.
func TestOpenAsTheDocumentWordsIt(t *testing.T) {
	for _, seed := range []string{repeated(0), repeated(255), sample(32)} {
		for _, dice := range []string{repeated(0) + repeated(0), repeated(255) + repeated(255), sample(64)} {
			for _, n := range []int{1, 2, 8} {
				letter := plainDraft(t, seed, keysOf(n), dice, sample(n*n)).signedBy(seed)
				for _, place := range []int{0, n / 2, n - 1} {
					checkOpen(t, secretOf(place), letter, api.Letter{Data: sample(n * n), Sender: libraryIdentity(seed), Place: place})
				}
			}
		}
	}
}

// Bits of a secret that do not count do not count here.
func TestOpenWithTheSameSecret(t *testing.T) {
	_, letter := ordinary(t)
	want := api.Letter{Data: "data", Sender: libraryIdentity(sample(32)), Place: 1}
	for low := range byte(8) {
		for _, high := range []byte{0, 64, 128, 192} {
			checkOpen(t, withByte(withByte(secretOf(1), 0, low), 31, high), letter, want)
		}
	}
	for _, bit := range []int{3, 4, 100, 200, 253} {
		checkNotOpen(t, withByte(secretOf(1), bit/8, 1<<(bit%8)), letter, api.ErrReader)
	}
}

// Every set of faults together: the answer is that of the one that P7 names first.
func TestOrderOfErrorsOfOpening(t *testing.T) {
	whole, _ := ordinary(t)
	order := []api.Errno{api.ErrSize, api.ErrForm, api.ErrSign, api.ErrPoint, api.ErrReader, api.ErrTag}
	for faults := range 1 << len(order) {
		has := func(errno api.Errno) bool { return faults>>slices.Index(order, errno)&1 == 1 }
		d, secret, seed := whole.clone(), secretOf(1), sample(32)
		if has(api.ErrSize) {
			secret = secret[1:]
		}
		if has(api.ErrForm) {
			d.mark = "MV2"
		}
		if has(api.ErrSign) {
			seed = repeated('x')
		}
		if has(api.ErrPoint) {
			d.point = repeated(0)
		}
		if has(api.ErrReader) {
			d.shares[1] = withByte(d.shares[1], 47, 1)
		}
		d = d.holding(t, repeated('f'), "data")
		if has(api.ErrTag) {
			d.closed = withByte(d.closed, 0, 1)
		}
		letter := d.signedBy(seed)
		if faults == 0 {
			checkOpen(t, secret, letter, api.Letter{Data: "data", Sender: libraryIdentity(seed), Place: 1})
			continue
		}
		first := order[slices.IndexFunc(order, has)]
		checkNotOpen(t, secret, letter, first)
		if has(api.ErrForm) {
			// The same with another fault of the form.
			checkNotOpen(t, secret, "MV1"+letter[3:]+"\x00", first)
			checkNotOpen(t, secret, "MV1"+letter[3:len(letter)-1], first)
		}
	}
}

func TestOpenWithSecretsOfWrongSizes(t *testing.T) {
	_, letter := ordinary(t)
	for _, n := range []int{0, 1, 31, 33, 64, 12001} {
		for _, wrong := range []string{letter, letter[1:], withByte(letter, 40, 1), "", sample(12001)} {
			checkNotOpen(t, stretched(secretOf(0), n), wrong, api.ErrSize)
		}
	}
}

func TestLettersCutOff(t *testing.T) {
	for _, n := range []int{1, 8} {
		for _, size := range []int{0, 20} {
			letter := plainDraft(t, sample(32), keysOf(n), sample(64), sample(size)).signedBy(sample(32))
			for cut := range letter {
				checkNotOpen(t, secretOf(0), letter[:cut], api.ErrForm)
				checkNotOpen(t, secretOf(0), letter[cut+1:], api.ErrForm)
				checkNotOpen(t, secretOf(0), letter[:cut]+letter[cut+1:], api.ErrForm)
				checkNotOpen(t, secretOf(0), letter[:cut]+"\x00"+letter[cut:], api.ErrForm)
			}
		}
	}
}

func TestLettersThatGoOn(t *testing.T) {
	_, letter := ordinary(t)
	for _, more := range []string{"\x00", "\n", "x", "\xff", repeated(0), sample(16), sample(48), sample(64), letter} {
		checkNotOpen(t, secretOf(0), letter+more, api.ErrForm)
		checkNotOpen(t, secretOf(0), more+letter, api.ErrForm)
	}
	// Signed with what was put behind it.
	d, _ := ordinary(t)
	d.closed += "\x00"
	checkNotOpen(t, secretOf(0), d.signedBy(sample(32)), api.ErrForm)
	d.closed = d.closed[:len(d.closed)-2]
	checkNotOpen(t, secretOf(0), d.signedBy(sample(32)), api.ErrForm)
}

// formAt tells whether the byte at this place of a letter to two readers says what form it has.
func formAt(at int) bool {
	return at < 3 || at == 35 || at >= 36+2*48+32 && at < 36+2*48+36
}

func TestEachByteSpoilt(t *testing.T) {
	_, letter := ordinary(t)
	for at := range letter {
		want := api.ErrSign
		if formAt(at) {
			want = api.ErrForm
		}
		for _, change := range []byte{1, 2, 128, 255} {
			checkNotOpen(t, secretOf(0), withByte(letter, at, change), want)
		}
	}
}

// Spoilt, and signed by the sender itself.
func TestEachByteSpoiltAndSignedAnew(t *testing.T) {
	_, letter := ordinary(t)
	sender := 36 + 2*48
	for at := range letter[:len(letter)-64] {
		want := api.ErrTag
		switch {
		case formAt(at):
			want = api.ErrForm
		case at < 35, at >= 36 && at < 84:
			want = api.ErrReader
		case at >= sender && at < sender+32:
			want = api.ErrSign
		}
		for _, change := range []byte{1, 128} {
			checkNotOpen(t, secretOf(0), anew(withByte(letter, at, change), sample(32)), want)
		}
	}
}

// Another puts its own name for the sender's, and signs: the name is in the title, so that this is found out, spoilt or not.
func TestSignedAnewByAnother(t *testing.T) {
	d, letter := ordinary(t)
	other := repeated('o')
	checkNotOpen(t, secretOf(0), anew(letter, other), api.ErrSign)
	d.sender = libraryIdentity(other)
	named := d.signedBy(other)
	checkNotOpen(t, secretOf(0), named, api.ErrTag)
	checkNotOpen(t, secretOf(1), named, api.ErrTag)
	for at := range named[:len(named)-64] {
		if at < 36 || at >= 36+2*48 && at < 36+2*48+36 {
			continue
		}
		want := api.ErrTag
		if at < 84 {
			want = api.ErrReader
		}
		checkNotOpen(t, secretOf(0), anew(withByte(named, at, 4), other), want)
	}
	// Who knows the inner key can write a letter of its own with it, in its own name alone.
	checkOpen(t, secretOf(0), d.holding(t, repeated('f'), "other").signedBy(other), api.Letter{Data: "other", Sender: libraryIdentity(other), Place: 0})
	checkNotOpen(t, secretOf(0), d.holding(t, repeated('f'), "other").signedBy(sample(32)), api.ErrSign)
}

func TestSignaturesOfLetters(t *testing.T) {
	d, letter := ordinary(t)
	signed, signature := letter[:len(letter)-64], letter[len(letter)-64:]
	more := plainNumber(signature[32:])
	more.Add(more, signOrder())
	ofOther := librarySign(sample(32), signed+"\x00")
	for _, wrong := range []string{strings.Repeat("\x00", 64), signature[32:] + signature[:32], signature[:32] + plainBytes(more, 32), ofOther, signature[:32] + ofOther[32:]} {
		checkNotOpen(t, secretOf(0), signed+wrong, api.ErrSign)
	}
	checkOpen(t, secretOf(0), letter, api.Letter{Data: "data", Sender: libraryIdentity(sample(32)), Place: 0})
	for _, identity := range notPoints() {
		d.sender = identity
		made := d.holding(t, repeated('f'), "data")
		checkNotOpen(t, secretOf(0), made.title()+made.closed+pointBytes(nowhere())+repeated(0), api.ErrSign)
	}
	// For the identity (0, 1) this signature is right for all data: the document takes it, and leaves it to the reader.
	d.sender = pointBytes(nowhere())
	made := d.holding(t, repeated('f'), "data")
	anyone := made.title() + made.closed + pointBytes(nowhere()) + repeated(0)
	checkOpen(t, secretOf(0), anyone, api.Letter{Data: "data", Sender: pointBytes(nowhere()), Place: 0})
}

// Letters to so many readers, whole and signed, and letters that only say so.
func TestNumbersOfReaders(t *testing.T) {
	d, letter := ordinary(t)
	share := d.shares[0]
	for _, n := range []int{0, 1, 2, 3, 7, 8, 9, 10, 16, 127, 128, 200, 255} {
		number := string([]byte{byte(n)})
		if n != 2 {
			checkNotOpen(t, secretOf(0), letter[:35]+number+letter[36:], api.ErrForm)
			checkNotOpen(t, secretOf(0), anew(letter[:35]+number+letter[36:], sample(32)), api.ErrForm)
		}
		d.readers, d.shares = number, slices.Repeat([]string{share}, n)
		made := d.holding(t, repeated('f'), "data").signedBy(sample(32))
		if n >= 1 && n <= 8 {
			checkOpen(t, secretOf(0), made, api.Letter{Data: "data", Sender: libraryIdentity(sample(32)), Place: 0})
		} else {
			checkNotOpen(t, secretOf(0), made, api.ErrForm)
		}
	}
}

func TestLengthsThatDoNotFit(t *testing.T) {
	d, _ := ordinary(t)
	for _, n := range []int64{0, 1, 3, 5, 20, 36, 84, 260, 10000, 10001, 12000, 65535, 65536, 65540, 1<<24 + 4, 1<<31 - 1, 1 << 31, 1<<31 + 4, 1<<32 - 1, 1<<32 - 4} {
		d.count = fourBytes(n)
		checkNotOpen(t, secretOf(0), d.signedBy(sample(32)), api.ErrForm)
	}
	// The bytes of the length in the other order.
	d.count = "\x00\x00\x00\x04"
	checkNotOpen(t, secretOf(0), d.signedBy(sample(32)), api.ErrForm)
	d.count = fourBytes(4)
	checkOpen(t, secretOf(0), d.signedBy(sample(32)), api.Letter{Data: "data", Sender: libraryIdentity(sample(32)), Place: 0})
}

// Lengths which with the tag and the signature go beyond 2^32, 2^31 or 2^16, and letters that have what is left.
func TestLengthsThatWrapRound(t *testing.T) {
	d, _ := ordinary(t)
	for _, about := range []int64{1 << 32, 1 << 31, 1 << 16} {
		for off := int64(-100); off < 100; off++ {
			if about+off >= 1<<32 {
				break
			}
			for _, rest := range []int64{off, off + 16, off + 80, off + 16 + 64 + int64(len(d.title()))} {
				if rest < 0 {
					continue
				}
				d.count = fourBytes(about + off)
				checkNotOpen(t, secretOf(0), d.title()+sample(int(rest)), api.ErrForm)
			}
		}
	}
}

// Letters that are right but for their size: data of more than 10000 bytes, and whole letters of 12000 and 12001.
func TestLettersTooLong(t *testing.T) {
	for _, n := range []int{1, 2, 8} {
		d := plainDraft(t, sample(32), keysOf(n), repeated('e')+repeated('f'), "")
		around := len(d.signedBy(sample(32)))
		for _, size := range []int{9999, 10000, 10001, 12000 - around, 12001 - around, 12000, 20000} {
			letter := d.holding(t, repeated('f'), sample(size)).signedBy(sample(32))
			if size <= 10000 {
				checkOpen(t, secretOf(n-1), letter, api.Letter{Data: sample(size), Sender: libraryIdentity(sample(32)), Place: n - 1})
			} else {
				checkNotOpen(t, secretOf(n-1), letter, api.ErrForm)
			}
		}
	}
	_, letter := ordinary(t)
	for _, size := range []int{11999, 12000, 12001, 12002, 20001, 1 << 20} {
		checkNotOpen(t, secretOf(0), stretched(letter, size), api.ErrForm)
		checkNotOpen(t, secretOf(0), sample(size), api.ErrForm)
	}
}

func TestLettersThatAreNone(t *testing.T) {
	for n := range 700 {
		checkNotOpen(t, secretOf(0), sample(n), api.ErrForm)
		checkNotOpen(t, secretOf(0), strings.Repeat("\x00", n), api.ErrForm)
		checkNotOpen(t, secretOf(0), "MV1"+sample(n), api.ErrForm)
	}
	_, letter := ordinary(t)
	for _, mark := range []string{"MV0", "MV2", "mv1", "MW1", "\x00\x00\x00", "1VM"} {
		checkNotOpen(t, secretOf(0), mark+letter[3:], api.ErrForm)
	}
	text, _ := missive.Write(letter)
	checkNotOpen(t, secretOf(0), text, api.ErrForm)
}

// Points of few multiples as E, in letters that are signed, however they are spelt.
func TestLettersWithPointsOfFewMultiples(t *testing.T) {
	d, _ := ordinary(t)
	for _, number := range pointsOfFew(t) {
		for _, point := range spellings(number) {
			d.point = point
			checkNotOpen(t, secretOf(0), d.signedBy(sample(32)), api.ErrPoint)
			// Anyone could have closed these bytes; they are not asked.
			for i := range d.shares {
				d.shares[i] = plainShare(t, repeated(0), point, keyOf(i), repeated('f'))
			}
			checkNotOpen(t, secretOf(1), d.holding(t, repeated('f'), "data").signedBy(sample(32)), api.ErrPoint)
		}
	}
}

// E stands in the salt as it is in the letter, with all its bits.
func TestLettersWithTheHighestBitOfE(t *testing.T) {
	d, letter := ordinary(t)
	plain := d.point
	d.point = withByte(plain, 31, 128)
	checkNotOpen(t, secretOf(0), d.holding(t, repeated('f'), "data").signedBy(sample(32)), api.ErrReader)
	agreed := plainAgree(secretOf(1), plain)
	d.shares[1] = plainShare(t, agreed, d.point, keyOf(1), repeated('f'))
	checkOpen(t, secretOf(1), d.holding(t, repeated('f'), "data").signedBy(sample(32)), api.Letter{Data: "data", Sender: libraryIdentity(sample(32)), Place: 1})
	checkNotOpen(t, secretOf(1), anew(withByte(letter, 34, 128), sample(32)), api.ErrReader)
}

func TestSecretsOfNobody(t *testing.T) {
	letter := plainDraft(t, sample(32), keysOf(8), sample(64), "data").signedBy(sample(32))
	for _, secret := range append(edgeSecrets(), secretOf(8), keyOf(0), sample(64)[:32], sample(64)[32:]) {
		checkNotOpen(t, secret, letter, api.ErrReader)
	}
	// Shares that were closed with another salt or another purpose than the reader's own.
	d, _ := ordinary(t)
	agreed := plainAgree(secretOf(0), d.point)
	none := strings.Repeat("\x00", 12)
	for _, key := range []string{
		agreed,
		libraryDerive(t, agreed, "", "missive key", 32),
		libraryDerive(t, agreed, d.point, "missive key", 32),
		libraryDerive(t, agreed, keyOf(0), "missive key", 32),
		libraryDerive(t, agreed, keyOf(0)+d.point, "missive key", 32),
		libraryDerive(t, agreed, d.point+keyOf(1), "missive key", 32),
		libraryDerive(t, agreed, d.point+keyOf(0), "missive body", 32),
		libraryDerive(t, agreed, d.point+keyOf(0), "", 32),
	} {
		d.shares[0] = plainClose(key, none, "", repeated('f'))
		checkNotOpen(t, secretOf(0), d.holding(t, repeated('f'), "data").signedBy(sample(32)), api.ErrReader)
	}
	right := libraryDerive(t, agreed, d.point+keyOf(0), "missive key", 32)
	for _, share := range []string{plainClose(right, none, "title", repeated('f')), plainClose(right, sample(12), "", repeated('f')), strings.Repeat("\x00", 48)} {
		d.shares[0] = share
		checkNotOpen(t, secretOf(0), d.holding(t, repeated('f'), "data").signedBy(sample(32)), api.ErrReader)
	}
}

// The first bytes that can be unclosed are taken, even if others would have held the right key.
func TestSharesWithTheKeyOfOtherData(t *testing.T) {
	d, _ := ordinary(t)
	agreed := plainAgree(secretOf(0), d.point)
	right, wrong := plainShare(t, agreed, d.point, keyOf(0), repeated('f')), plainShare(t, agreed, d.point, keyOf(0), repeated('g'))
	nobodys := sample(48)
	opened := func(place int) api.Letter {
		return api.Letter{Data: "data", Sender: libraryIdentity(sample(32)), Place: place}
	}
	for _, c := range []struct {
		shares []string
		errno  api.Errno
		place  int
	}{
		{[]string{wrong}, api.ErrTag, 0},
		{[]string{wrong, right}, api.ErrTag, 0},
		{[]string{nobodys, wrong, right}, api.ErrTag, 0},
		{[]string{right, wrong}, api.OK, 0},
		{[]string{nobodys, right, wrong, right}, api.OK, 1},
		{[]string{nobodys, nobodys, nobodys, nobodys, nobodys, nobodys, nobodys, right}, api.OK, 7},
		{[]string{nobodys, nobodys}, api.ErrReader, 0},
	} {
		d.shares, d.readers = c.shares, string([]byte{byte(len(c.shares))})
		letter := d.holding(t, repeated('f'), "data").signedBy(sample(32))
		if c.errno == api.OK {
			checkOpen(t, secretOf(0), letter, opened(c.place))
		} else {
			checkNotOpen(t, secretOf(0), letter, c.errno)
		}
	}
}

// Data that was closed with another key, nonce or title than the letter's own.
func TestDataOfOtherLetters(t *testing.T) {
	d, _ := ordinary(t)
	none := strings.Repeat("\x00", 12)
	key := libraryDerive(t, repeated('f'), "", "missive body", 32)
	for _, closed := range []string{
		plainClose(repeated('f'), none, d.title(), "data"),
		plainClose(libraryDerive(t, repeated('f'), d.point, "missive body", 32), none, d.title(), "data"),
		plainClose(libraryDerive(t, repeated('f'), "", "missive key", 32), none, d.title(), "data"),
		plainClose(key, sample(12), d.title(), "data"),
		plainClose(key, none, "", "data"),
		plainClose(key, none, d.title()[3:], "data"),
		plainClose(key, none, d.title()[:len(d.title())-4], "data"),
		plainClose(key, none, d.title(), "data")[:4] + plainClose(key, none, d.title(), "date")[4:],
		strings.Repeat("\x00", 20),
	} {
		d.closed = closed
		checkNotOpen(t, secretOf(0), d.signedBy(sample(32)), api.ErrTag)
	}
	d.closed = plainClose(key, none, d.title(), "data")
	checkOpen(t, secretOf(0), d.signedBy(sample(32)), api.Letter{Data: "data", Sender: libraryIdentity(sample(32)), Place: 0})
}

// P9, all the way: sealed, written, read and opened by each reader.
func TestLettersGoAllTheWay(t *testing.T) {
	for n := 1; n <= 8; n++ {
		seed, data := sample(n + 32)[n:], sample(n*n*n*19)
		secrets := edgeSecrets()[:n]
		var readers []string
		for _, secret := range secrets {
			public, errno := missive.Public(secret)
			if errno != api.OK {
				t.Fatalf("P4: %d", errno)
			}
			readers = append(readers, public)
		}
		letter, errno := missive.Seal(seed, readers, sample(n + 64)[n:], data)
		text, writing := missive.Write(letter)
		read, line, reading := missive.Read(text)
		if errno != api.OK || writing != api.OK || reading != api.OK || line != 0 || read != letter {
			t.Fatalf("P9: %d, %d, %d, %d: %x, then %x", errno, writing, reading, line, letter, read)
		}
		sender, _ := missive.Identity(seed)
		for i, secret := range secrets {
			place := slices.Index(readers, readers[i])
			checkOpen(t, secret, read, api.Letter{Data: data, Sender: sender, Place: place})
		}
	}
}

// P1: Seal's answer is of new memory, and texts that are handed in stay as they were.
func TestLettersLeaveTextsAlone(t *testing.T) {
	seed, dice, data := sample(32), sample(64), sample(50)
	readers := keysOf(2)
	before := []string{strings.Clone(seed), strings.Clone(dice), strings.Clone(data), strings.Clone(readers[0])}
	letter, errno := missive.Seal(seed, readers, dice, data)
	if errno != api.OK || !slices.Equal(before, []string{seed, dice, data, readers[0]}) {
		t.Errorf("P1: a text was changed, or %d", errno)
	}
	for _, text := range []string{seed, dice, data, readers[0], readers[1]} {
		if !apart(letter, text) {
			t.Errorf("P1: the letter shares memory with %x", text)
		}
	}
	told := strings.Clone(letter)
	missive.Open(secretOf(0), letter)
	if letter != told {
		t.Errorf("P1: the letter was changed")
	}
}

// The greatest number that four bytes hold goes with no letter, whatever its size.
func TestGreatestLength(t *testing.T) {
	d, _ := ordinary(t)
	d.count = plainBytes(new(big.Int).Sub(twoTo(32), big.NewInt(1)), 4)
	for n := range 300 {
		checkNotOpen(t, secretOf(0), d.title()+sample(n), api.ErrForm)
	}
	checkNotOpen(t, secretOf(0), stretched(d.title(), 12000), api.ErrForm)
}
