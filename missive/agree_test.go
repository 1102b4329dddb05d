package missive_test

import (
	"crypto/ecdh"
	"encoding/hex"
	"math/big"
	"math/rand"
	"slices"
	"strings"
	"sync"
	"testing"

	"missive/api"
	"missive/missive"
)

// fieldModulus is p, 2^255 - 19.
func fieldModulus() *big.Int { return new(big.Int).Sub(twoTo(255), big.NewInt(19)) }

// plainMultiple is a times b^(p - 2) as the document words it, of any number K below 2^255.
func plainMultiple(k, u *big.Int) *big.Int {
	p := fieldModulus()
	plus := func(x, y *big.Int) *big.Int { return new(big.Int).Add(x, y) }
	minus := func(x, y *big.Int) *big.Int { return new(big.Int).Sub(x, y) }
	times := func(x, y *big.Int) *big.Int { z := new(big.Int).Mul(x, y); return z.Mod(z, p) }
	square := func(x *big.Int) *big.Int { return times(x, x) }
	a, b, c, d := big.NewInt(1), big.NewInt(0), u, big.NewInt(1)
	for at := 254; at >= 0; at-- {
		bit := k.Bit(at) == 1
		if bit {
			a, b, c, d = c, d, a, b
		}
		e, f, g, h := plus(a, b), minus(a, b), plus(c, d), minus(c, d)
		he, gf, apart := times(h, e), times(g, f), minus(square(e), square(f))
		c, d = square(plus(he, gf)), times(u, square(minus(he, gf)))
		a, b = times(square(e), square(f)), times(apart, plus(square(e), times(big.NewInt(121665), apart)))
		if bit {
			a, b, c, d = c, d, a, b
		}
	}
	return times(a, new(big.Int).Exp(b, minus(p, big.NewInt(2)), p))
}

// plainSecret is the number K of a secret.
func plainSecret(secret string) *big.Int {
	k := plainNumber(secret)
	for at := range 3 {
		k.SetBit(k, at, 0)
	}
	return k.SetBit(k, 255, 0).SetBit(k, 254, 1)
}

// plainPoint is the number U of a point.
func plainPoint(point string) *big.Int {
	u := plainNumber(point)
	return u.SetBit(u, 255, 0).Mod(u, fieldModulus())
}

func plainAgree(secret, point string) string {
	return plainBytes(plainMultiple(plainSecret(secret), plainPoint(point)), 32)
}

func fromHex(t *testing.T, digits string) string {
	t.Helper()
	out, err := hex.DecodeString(digits)
	if err != nil {
		t.Fatal(err)
	}
	return string(out)
}

func repeated(b byte) string { return strings.Repeat(string([]byte{b}), 32) }

// withByte answers the text with one of its bytes xored.
func withByte(text string, at int, change byte) string {
	out := []byte(text)
	out[at] ^= change
	return string(out)
}

// checkAgreeing asks that secret and point agree upon just this, or, if it is 32 bytes 0, for ErrPoint.
func checkAgreeing(t *testing.T, secret, point, want string) {
	t.Helper()
	errno := api.OK
	if want == repeated(0) {
		want, errno = "", api.ErrPoint
	}
	if got, gotErrno := missive.Agree(secret, point); got != want || gotErrno != errno {
		t.Errorf("P4: Agree(%x, %x) = %x, %d, want %x, %d", secret, point, got, gotErrno, want, errno)
	}
}

func checkPublic(t *testing.T, secret, want string) {
	t.Helper()
	if got, errno := missive.Public(secret); got != want || errno != api.OK {
		t.Errorf("P4: Public(%x) = %x, %d, want %x", secret, got, errno, want)
	}
}

// edgeSecrets and edgePoints: ordinary ones, and those of which the first and the last bits say much.
func edgeSecrets() []string {
	out := []string{repeated(0), repeated(255), repeated(9), repeated(170), sample(32), sample(64)[32:]}
	for _, at := range []int{0, 31} {
		for bit := range 8 {
			out = append(out, withByte(repeated(0), at, 1<<bit), withByte(repeated(255), at, 1<<bit))
		}
	}
	return out
}

func edgePoints() []string {
	p := fieldModulus()
	last := new(big.Int).Sub(twoTo(255), big.NewInt(1))
	out := []string{repeated(255), repeated(170), sample(32), sample(64)[32:]}
	for _, about := range []*big.Int{new(big.Int), big.NewInt(9), p, last} {
		for off := int64(-3); off <= 3; off++ {
			number := new(big.Int).Add(about, big.NewInt(off))
			if number.Sign() >= 0 && number.Cmp(last) <= 0 {
				out = append(out, plainBytes(number, 32))
			}
		}
	}
	// 2p - 1 and its neighbours: 256 bits hold them, but the highest one does not count.
	for off := int64(-2); off <= 2; off++ {
		number := new(big.Int).Add(p, p)
		out = append(out, plainBytes(number.Add(number, big.NewInt(off)), 32))
	}
	return out
}

// pointsOfFew are the numbers below p with which 32 bytes 0 come out, whatever the secret is.
func pointsOfFew(t *testing.T) []*big.Int {
	t.Helper()
	return []*big.Int{
		new(big.Int),
		big.NewInt(1),
		new(big.Int).Sub(fieldModulus(), big.NewInt(1)),
		plainNumber(fromHex(t, "e0eb7a7c3b41b8ae1656e3faf19fc46ada098deb9c32b1fd866205165f49b800")),
		plainNumber(fromHex(t, "5f9c95bca3508c24b1d0b1559c83ef5b04445cc4581c8e86d8224eddd09f1157")),
	}
}

// spellings are all the bytes whose number is this one modulo p.
func spellings(number *big.Int) []string {
	var out []string
	for n := new(big.Int).Set(number); n.Cmp(twoTo(255)) < 0; n.Add(n, fieldModulus()) {
		out = append(out, plainBytes(n, 32), plainBytes(new(big.Int).Add(n, twoTo(255)), 32))
	}
	return out
}

func TestAgreeKnownAnswers(t *testing.T) {
	alice := fromHex(t, "77076d0a7318a57d3c16c17251b26645df4c2f87ebc0992ab177fba51db92c2a")
	bob := fromHex(t, "5dab087e624a8a4b79e17f8b83800ee66f3bb1292618b6fd1c2f8b27ff88e0eb")
	aliceKey := fromHex(t, "8520f0098930a754748b7ddcb43ef75a0dbf3a0d26381af4eba4a98eaa9b4e6a")
	bobKey := fromHex(t, "de9edb7d7b7dc1b4d35b61c2ece435373f8343c85b78674dadfc7e146f882b4f")
	both := fromHex(t, "4a5d9d5ba4ce2de1728e3bf480350f25e07e21c947d19e3376f09b3c1e161742")
	checkPublic(t, alice, aliceKey)
	checkPublic(t, bob, bobKey)
	checkAgreeing(t, alice, bobKey, both)
	checkAgreeing(t, bob, aliceKey, both)
	for _, known := range [][3]string{
		{"a546e36bf0527c9d3b16154b82465edd62144c0ac1fc5a18506a2244ba449ac4", "e6db6867583030db3594c1a424b15f7c726624ec26b3353b10a903a6d0ab1c4c", "c3da55379de9c6908e94ea4df28d084f32eccf03491c71f754b4075577a28552"},
		{"4b66e9d4d1b4673c5ad22691957d6af5c11b6421e0ea01d42ca4169e7918ba0d", "e5210f12786811d3f4b7959d0538ae2c31dbe7106fc03c3efc4cd549c715a493", "95cbde9476e8907d7aade45cb4b873f88b595a68799fa152e6f8f7647aac7957"},
	} {
		checkAgreeing(t, fromHex(t, known[0]), fromHex(t, known[1]), fromHex(t, known[2]))
	}
}

func TestAgreeAThousandTimes(t *testing.T) {
	secret := withByte(repeated(0), 0, 9)
	point := secret
	known := map[int]string{
		1:    "422c8e7a6227d7bca1350b3e2bb7279f7897b87bb6854b783c60e80311ae3079",
		1000: "684cf59ba83309552800ef566f2f4d3c1c3887c49360e3875f2eb94d99532c51",
	}
	for i := 1; i <= 1000; i++ {
		agreed, errno := missive.Agree(secret, point)
		if errno != api.OK {
			t.Fatalf("P4: %d after %d times", errno, i)
		}
		secret, point = agreed, secret
		if want, told := known[i]; told && agreed != fromHex(t, want) {
			t.Errorf("P4: after %d times %x, want %s", i, agreed, want)
		}
	}
}

func TestAgreeAtTheEdges(t *testing.T) {
	for _, point := range edgePoints() {
		for _, secret := range edgeSecrets()[:6] {
			checkAgreeing(t, secret, point, plainAgree(secret, point))
		}
	}
	for _, secret := range edgeSecrets() {
		for _, point := range edgePoints()[:4] {
			checkAgreeing(t, secret, point, plainAgree(secret, point))
		}
	}
}

func TestAgreeAsOthersDo(t *testing.T) {
	chance := rand.New(rand.NewSource(4))
	bytes := func() []byte {
		out := make([]byte, 32)
		chance.Read(out)
		return out
	}
	for range 300 {
		secret, point := bytes(), bytes()
		key, err := ecdh.X25519().NewPrivateKey(secret)
		if err != nil {
			t.Fatal(err)
		}
		other, err := ecdh.X25519().NewPublicKey(point)
		if err != nil {
			t.Fatal(err)
		}
		want, err := key.ECDH(other)
		if err != nil {
			t.Fatal(err)
		}
		checkAgreeing(t, string(secret), string(point), string(want))
		checkPublic(t, string(secret), string(key.PublicKey().Bytes()))
	}
}

// Bits of a secret that do not count, alone and together; and that every other one does.
func TestBitsOfSecrets(t *testing.T) {
	for _, secret := range []string{repeated(0), repeated(255), sample(32)} {
		public, agreed := plainAgree(secret, withByte(repeated(0), 0, 9)), plainAgree(secret, sample(32))
		for low := range byte(8) {
			for _, high := range []byte{0, 64, 128, 192} {
				same := withByte(withByte(secret, 0, low), 31, high)
				checkPublic(t, same, public)
				checkAgreeing(t, same, sample(32), agreed)
			}
		}
		for bit := 3; bit < 254; bit++ {
			other := withByte(secret, bit/8, 1<<(bit%8))
			if got, errno := missive.Public(other); got == public || errno != api.OK {
				t.Errorf("P4: Public(%x) = %x, %d, which is that of %x", other, got, errno, secret)
			}
		}
	}
}

func TestHighestBitOfPoints(t *testing.T) {
	for _, point := range edgePoints() {
		want := plainAgree(sample(32), point)
		checkAgreeing(t, sample(32), point, want)
		checkAgreeing(t, sample(32), withByte(point, 31, 128), want)
	}
}

// All the points that have two spellings, of 255 bits each, agree alike in both.
func TestPointsFromPOn(t *testing.T) {
	for n := range int64(19) {
		want := plainAgree(sample(32), plainBytes(big.NewInt(n), 32))
		for _, point := range spellings(big.NewInt(n)) {
			checkAgreeing(t, sample(32), point, want)
		}
		if got := len(spellings(big.NewInt(n))); got != 4 {
			t.Errorf("%d has %d spellings", n, got)
		}
	}
}

func TestPointsOfFewMultiples(t *testing.T) {
	for _, number := range pointsOfFew(t) {
		for _, point := range spellings(number) {
			for _, secret := range edgeSecrets() {
				checkAgreeing(t, secret, point, repeated(0))
			}
		}
	}
}

// One beside such a point is a point as any other.
func TestNeighboursOfPointsOfFewMultiples(t *testing.T) {
	few := pointsOfFew(t)
	for _, number := range few {
		for _, off := range []int64{-1, 1} {
			beside := new(big.Int).Add(number, big.NewInt(off))
			beside.Mod(beside, fieldModulus())
			if slices.ContainsFunc(few, func(n *big.Int) bool { return n.Cmp(beside) == 0 }) {
				continue
			}
			point := plainBytes(beside, 32)
			want := plainAgree(sample(32), point)
			if want == repeated(0) {
				t.Fatalf("with %x 32 bytes 0 come out too", point)
			}
			checkAgreeing(t, sample(32), point, want)
		}
	}
}

// orders are how many multiples a point can have, which is on the curve, or on its twist, and is 8 times another.
func orders(t *testing.T) []*big.Int {
	t.Helper()
	number := func(digits string) *big.Int {
		n, _ := new(big.Int).SetString(digits, 10)
		return n
	}
	onCurve := new(big.Int).Add(twoTo(252), number("27742317777372353535851937790883648493"))
	beside := new(big.Int).Sub(twoTo(253), number("55484635554744707071703875581767296995"))
	return []*big.Int{onCurve, beside}
}

// pointFor is a point with which the secret agrees upon the number, if there is one.
func pointFor(t *testing.T, secret string, number *big.Int) (string, bool) {
	t.Helper()
	for _, order := range orders(t) {
		// One time more than the order is the point itself. (The order alone would not do: nothing and the point 0 are both told as 0.)
		if plainMultiple(new(big.Int).Add(order, big.NewInt(1)), number).Cmp(number) == 0 {
			inverse := new(big.Int).ModInverse(plainSecret(secret), order)
			return plainBytes(plainMultiple(inverse, number), 32), true
		}
	}
	return "", false
}

// The last reduction at both ends: what comes out is little more than 0, or little less than p.
func TestAgreeUponNumbersAboutP(t *testing.T) {
	met := 0
	for _, about := range []*big.Int{new(big.Int), fieldModulus()} {
		for off := int64(-40); off <= 40; off++ {
			number := new(big.Int).Add(about, big.NewInt(off))
			if number.Cmp(big.NewInt(2)) < 0 || number.Cmp(fieldModulus()) >= 0 {
				continue
			}
			for _, secret := range []string{sample(32), repeated(255)} {
				if point, found := pointFor(t, secret, number); found {
					met++
					checkAgreeing(t, secret, point, plainBytes(number, 32))
				}
			}
		}
	}
	if met < 20 {
		t.Errorf("only %d such points were found", met)
	}
}

func TestPublicIsAgreeWithNine(t *testing.T) {
	nine := withByte(repeated(0), 0, 9)
	for _, secret := range append(edgeSecrets(), nine) {
		public, errno := missive.Public(secret)
		if errno != api.OK || len(public) != api.KeySize {
			t.Errorf("P4: Public(%x) = %x, %d", secret, public, errno)
		}
		checkAgreeing(t, secret, nine, public)
		if public != plainAgree(secret, nine) {
			t.Errorf("P4: Public(%x) = %x", secret, public)
		}
	}
}

// P9: two agree upon the same, and three do, one after the other.
func TestTwoAgreeUponTheSame(t *testing.T) {
	public := func(secret string) string {
		key, errno := missive.Public(secret)
		if errno != api.OK {
			t.Fatalf("P4: %d", errno)
		}
		return key
	}
	secrets := edgeSecrets()[:8]
	for _, one := range secrets {
		for _, other := range secrets {
			agreed, errno := missive.Agree(one, public(other))
			if errno != api.OK {
				t.Errorf("P9: Agree(%x, that of %x): %d", one, other, errno)
			}
			checkAgreeing(t, other, public(one), agreed)
			third, _ := missive.Agree(sample(32), agreed)
			between, _ := missive.Agree(sample(32), public(one))
			checkAgreeing(t, other, between, third)
		}
	}
}

// Each argument of a wrong size, alone and with the other, and ahead of points that are refused.
func TestWrongSizesOfAgreeing(t *testing.T) {
	sizes := []int{0, 1, 31, 32, 33, 64, 12001}
	for _, fill := range []byte{0, 1, 'x', 255} {
		text := func(n int) string { return strings.Repeat(string([]byte{fill}), n) }
		for _, secret := range sizes {
			if secret != 32 {
				if got, errno := missive.Public(text(secret)); got != "" || errno != api.ErrSize {
					t.Errorf("P4: Public of %d bytes: %x, %d", secret, got, errno)
				}
			}
			for _, point := range sizes {
				if secret == 32 && point == 32 {
					continue
				}
				if got, errno := missive.Agree(text(secret), text(point)); got != "" || errno != api.ErrSize {
					t.Errorf("P4: Agree of %d and %d bytes: %x, %d", secret, point, got, errno)
				}
			}
		}
	}
}

// P1: nothing is kept between calls, nor shared by calls at the same time.
func TestAgreeingHangsOnArgumentsAlone(t *testing.T) {
	var group sync.WaitGroup
	for worker := range 8 {
		group.Go(func() {
			for i := range 10 {
				secret, point := sample(i + worker + 32)[i+worker:], sample(i + 50)[i+18:]
				missive.Agree(point, secret)
				missive.Public(point)
				missive.Agree(secret, repeated(0))
				checkAgreeing(t, secret, point, plainAgree(secret, point))
			}
		})
	}
	group.Wait()
}
