package missive_test

import (
	"crypto/ed25519"
	"math/big"
	"math/rand"
	"slices"
	"strings"
	"sync"
	"testing"

	"missive/api"
	"missive/missive"
)

// A curvePoint is a point (x, y) of whole numbers.
type curvePoint struct{ x, y *big.Int }

// signOrder is Q.
func signOrder() *big.Int {
	more, _ := new(big.Int).SetString("27742317777372353535851937790883648493", 10)
	return more.Add(more, twoTo(252))
}

func fieldSum(x, y *big.Int) *big.Int { z := new(big.Int).Add(x, y); return z.Mod(z, fieldModulus()) }

func fieldLess(x, y *big.Int) *big.Int { z := new(big.Int).Sub(x, y); return z.Mod(z, fieldModulus()) }

func fieldProduct(x, y *big.Int) *big.Int {
	z := new(big.Int).Mul(x, y)
	return z.Mod(z, fieldModulus())
}

func fieldQuotient(x, y *big.Int) *big.Int {
	return fieldProduct(x, new(big.Int).ModInverse(y, fieldModulus()))
}

func plainD() *big.Int { return fieldQuotient(big.NewInt(-121665), big.NewInt(121666)) }

func nowhere() curvePoint { return curvePoint{new(big.Int), big.NewInt(1)} }

// pointSum is the sum of two points as the document words it.
func pointSum(a, b curvePoint) curvePoint {
	one := big.NewInt(1)
	change := fieldProduct(plainD(), fieldProduct(fieldProduct(a.x, b.x), fieldProduct(a.y, b.y)))
	return curvePoint{
		fieldQuotient(fieldSum(fieldProduct(a.x, b.y), fieldProduct(b.x, a.y)), fieldSum(one, change)),
		fieldQuotient(fieldSum(fieldProduct(a.y, b.y), fieldProduct(a.x, b.x)), fieldLess(one, change)),
	}
}

func pointTimes(n *big.Int, a curvePoint) curvePoint {
	sum := nowhere()
	for at := n.BitLen() - 1; at >= 0; at-- {
		sum = pointSum(sum, sum)
		if n.Bit(at) == 1 {
			sum = pointSum(sum, a)
		}
	}
	return sum
}

func pointLess(a, b curvePoint) curvePoint {
	return pointSum(a, curvePoint{fieldLess(new(big.Int), b.x), b.y})
}

func pointBytes(a curvePoint) string {
	return plainBytes(new(big.Int).Add(a.y, new(big.Int).Lsh(big.NewInt(int64(a.x.Bit(0))), 255)), 32)
}

// pointWith is a point with this y, taken modulo p, and an x with this lowest bit; if x is 0, whatever the bit is.
func pointWith(y *big.Int, odd uint) (curvePoint, bool) {
	y = fieldSum(y, new(big.Int))
	yy := fieldProduct(y, y)
	one := big.NewInt(1)
	xx := fieldQuotient(fieldLess(yy, one), fieldSum(one, fieldProduct(plainD(), yy)))
	x := new(big.Int).ModSqrt(xx, fieldModulus())
	if x == nil {
		return curvePoint{}, false
	}
	if x.Bit(0) != odd {
		x = fieldLess(new(big.Int), x)
	}
	return curvePoint{x, y}, true
}

// loosePoint is the point of bytes, and some that the document does not take: y from p on, and x = 0 with the lowest bit 1.
func loosePoint(from string) (curvePoint, bool) {
	y := plainNumber(from)
	odd := y.Bit(255)
	return pointWith(y.SetBit(y, 255, 0), odd)
}

// strictPoint is the point of bytes as the document says when they are one.
func strictPoint(from string) (curvePoint, bool) {
	y := plainNumber(from)
	odd := y.Bit(255)
	a, found := pointWith(y.SetBit(y, 255, 0), odd)
	return a, found && y.Cmp(fieldModulus()) < 0 && a.x.Bit(0) == odd
}

func pointB(t *testing.T) curvePoint {
	t.Helper()
	b, found := pointWith(fieldQuotient(big.NewInt(4), big.NewInt(5)), 0)
	if !found {
		t.Fatal("there is no B")
	}
	return b
}

func plainModQ(bytes string) *big.Int {
	n := plainNumber(bytes)
	return n.Mod(n, signOrder())
}

func plainK(first, identity, data string) *big.Int {
	return plainModQ(libraryDigest(first + identity + data))
}

func plainIdentity(t *testing.T, seed string) string {
	return pointBytes(pointTimes(plainSecret(libraryDigest(seed)[:32]), pointB(t)))
}

func plainSign(t *testing.T, seed, data string) string {
	h := libraryDigest(seed)
	r := plainModQ(libraryDigest(h[32:] + data))
	first := pointBytes(pointTimes(r, pointB(t)))
	k := plainK(first, plainIdentity(t, seed), data)
	last := k.Mul(k, plainSecret(h[:32]))
	return first + plainBytes(last.Add(last, r).Mod(last, signOrder()), 32)
}

// equalHalves tells whether S times B less k times A is the first half.
func equalHalves(t *testing.T, a curvePoint, identity, data, signature string) bool {
	t.Helper()
	k := plainK(signature[:32], identity, data)
	return pointBytes(pointLess(pointTimes(plainNumber(signature[32:]), pointB(t)), pointTimes(k, a))) == signature[:32]
}

func plainRight(t *testing.T, identity, data, signature string) bool {
	t.Helper()
	a, found := strictPoint(identity)
	return found && plainNumber(signature[32:]).Cmp(signOrder()) < 0 && equalHalves(t, a, identity, data, signature)
}

// fewPoints are the eight points of which 8 times is (0, 1): n times the second, n from 0 to 7.
func fewPoints(t *testing.T) []curvePoint {
	t.Helper()
	for y := int64(2); ; y++ {
		a, found := pointWith(big.NewInt(y), 0)
		if !found {
			continue
		}
		eighth := pointTimes(signOrder(), a)
		if pointBytes(pointTimes(big.NewInt(4), eighth)) == pointBytes(nowhere()) {
			continue
		}
		var out []curvePoint
		for n := range int64(8) {
			out = append(out, pointTimes(big.NewInt(n), eighth))
		}
		return out
	}
}

func checkIdentity(t *testing.T, seed, want string) {
	t.Helper()
	if got, errno := missive.Identity(seed); got != want || errno != api.OK {
		t.Errorf("P5: Identity(%x) = %x, %d, want %x", seed, got, errno, want)
	}
}

func checkSign(t *testing.T, seed, data, want string) {
	t.Helper()
	if got, errno := missive.Sign(seed, data); got != want || errno != api.OK {
		t.Errorf("P5: Sign(%x, %d bytes) = %x, %d, want %x", seed, len(data), got, errno, want)
	}
}

func checkVerify(t *testing.T, identity, data, signature string, want bool) {
	t.Helper()
	if got := missive.Verify(identity, data, signature); got != want {
		t.Errorf("P5: Verify(%x, %d bytes, %x) = %v", identity, len(data), signature, got)
	}
}

// signed makes an identity and a signature.
func signed(t *testing.T, seed, data string) (string, string) {
	t.Helper()
	identity, errno := missive.Identity(seed)
	signature, again := missive.Sign(seed, data)
	if errno != api.OK || again != api.OK || len(identity) != api.KeySize || len(signature) != api.SignSize {
		t.Fatalf("P5: of %x: %x, %d, %x, %d", seed, identity, errno, signature, again)
	}
	return identity, signature
}

func TestSignKnownAnswers(t *testing.T) {
	for _, known := range [][4]string{
		{"9d61b19deffd5a60ba844af492ec2cc44449c5697b326919703bac031cae7f60", "d75a980182b10ab7d54bfed3c964073a0ee172f3daa62325af021a68f707511a", "", "e5564300c360ac729086e2cc806e828a84877f1eb8e5d974d873e065224901555fb8821590a33bacc61e39701cf9b46bd25bf5f0595bbe24655141438e7a100b"},
		{"4ccd089b28ff96da9db6c346ec114e0f5b8a319f35aba624da8cf6ed4fb8a6fb", "3d4017c3e843895a92b70aa74d1b7ebc9c982ccf2ec4968cc0cd55f12af4660c", "72", "92a009a9f0d4cab8720e820b5f642540a2b27b5416503f8fb3762223ebdb69da085ac1e43e15996e458f3613d0f11d8c387b2eaeb4302aeeb00d291612bb0c00"},
		{"c5aa8df43f9f837bedb7442f31dcb7b166d38535076f094b85ce3a2e0b4458f7", "fc51cd8e6218a1a38da47ed00230f0580816ed13ba3303ac5deb911548908025", "af82", "6291d657deec24024827e69c3abe01a30ce548a284743a445e3680d7db5ac3ac18ff9b538d16f290ae67f760984dc6594a7c15e9716ed28dc027beceea1ec40a"},
		{"4e7d21fb3b1897571a445833be0f9fd41cd62be3aa04040f8934e1fcbdcacd45", "31b2524b8348f7ab1dfafa675cc538e9a84e3fe5819e27c12ad8bbc1a36e4dff", "33d7a786aded8c1bf691", "28e4598c415ae9de01f03f9f3fab4e919e8bf537dd2b0cdf6e79b9e6559c9409d9151a4c40f083193937627c369488259e99da5a9f0a87497fa6696a5dd6ce08"},
		{"0a47d10452ae2febec518a1c7c362890c3fc1a49d34b03b6467d35c904a8362d", "34e5a8508c4743746962c066e4badea2201b8ab484de5c4f94476ccd2143955b", "c942fa7ac6b23ab7ff612fdc8e68ef39", "2a3d27dc40d0a8127949a3b7f908b3688f63b7f14f651aacd715940bdbe27a0809aac142f47ab0e1e44fa490ba87ce5392f33a891539caf1ef4c367cae54500c"},
		{"8ed7a797b9cea8a8370d419136bcdf683b759d2e3c6947f17e13e2485aa9d420", "b49f3a78b1c6a7fca8f3466f33bc0e929f01fba04306c2a7465f46c3759316d9", "a750c232933dc14b1184d86d8b4ce72e16d69744ba69818b6ac33b1d823bb2c3", "04266c033b91c1322ceb3446c901ffcf3cc40c4034e887c9597ca1893ba7330becbbd8b48142ef35c012c6ba51a66df9308cb6268ad6b1e4b03e70102495790b"},
		{"833fe62409237b9d62ec77587520911e9a759cec1d19755b7da901b96dca3d42", "ec172b93ad5e563bf4932c70e1245034c35467ef2efd4d64ebf819683467e2bf", "ddaf35a193617abacc417349ae20413112e6fa4e89a97ea20a9eeee64b55d39a2192992a274fc1a836ba3c23a3feebbd454d4423643ce80e2a9ac94fa54ca49f", "dc2a4459e7369633a52b1bf277839a00201009a3efbf3ecb69bea2186c26b58909351fc9ac90b3ecfdfbc7c66431e0303dca179c138ac17ad9bef1177331a704"},
	} {
		seed, identity, data, signature := fromHex(t, known[0]), fromHex(t, known[1]), fromHex(t, known[2]), fromHex(t, known[3])
		checkIdentity(t, seed, identity)
		checkSign(t, seed, data, signature)
		checkVerify(t, identity, data, signature, true)
	}
}

func TestSignAsTheDocumentWordsIt(t *testing.T) {
	for _, seed := range []string{repeated(0), repeated(1), repeated(9), repeated(255), sample(32)} {
		checkIdentity(t, seed, plainIdentity(t, seed))
		for _, data := range []string{"", "\x00", sample(77)} {
			want := plainSign(t, seed, data)
			checkSign(t, seed, data, want)
			if !plainRight(t, plainIdentity(t, seed), data, want) {
				t.Errorf("P9: %x is not right", want)
			}
		}
	}
}

func TestSignSizesOfData(t *testing.T) {
	seed := sample(32)
	key := ed25519.NewKeyFromSeed([]byte(seed))
	identity := string(key[32:])
	for _, n := range []int{0, 1, 2, 31, 32, 63, 64, 79, 80, 95, 96, 127, 128, 129, 9999, 10000, 10001, 11999, 12000} {
		want := string(ed25519.Sign(key, []byte(sample(n))))
		checkSign(t, seed, sample(n), want)
		checkVerify(t, identity, sample(n), want, true)
	}
	for _, n := range []int{12001, 12002, 20001, 1 << 20} {
		if got, errno := missive.Sign(seed, sample(n)); got != "" || errno != api.ErrSize {
			t.Errorf("P5: Sign of %d bytes: %x, %d", n, got, errno)
		}
		// It would be right, were the data not so long.
		checkVerify(t, identity, sample(n), string(ed25519.Sign(key, []byte(sample(n)))), false)
	}
}

func TestSignAsOthersDo(t *testing.T) {
	chance := rand.New(rand.NewSource(7))
	for range 150 {
		seed, data := make([]byte, 32), make([]byte, chance.Intn(400))
		chance.Read(seed)
		chance.Read(data)
		key := ed25519.NewKeyFromSeed(seed)
		want := string(ed25519.Sign(key, data))
		checkIdentity(t, string(seed), string(key[32:]))
		checkSign(t, string(seed), string(data), want)
		checkVerify(t, string(key[32:]), string(data), want, true)
	}
}

// All bits of a seed count: the digest stands between it and the bits that are changed.
func TestBitsOfSeeds(t *testing.T) {
	seed := sample(32)
	identity, signature := signed(t, seed, "data")
	for bit := range 256 {
		other := withByte(seed, bit/8, 1<<(bit%8))
		otherIdentity, otherSignature := signed(t, other, "data")
		if otherIdentity == identity || otherSignature[:32] == signature[:32] || otherSignature[32:] == signature[32:] {
			t.Errorf("P5: bit %d of the seed does not count", bit)
		}
		checkVerify(t, otherIdentity, "data", signature, false)
		checkVerify(t, identity, "data", otherSignature, false)
	}
}

func TestWrongSizesOfSigning(t *testing.T) {
	for _, n := range []int{0, 1, 31, 33, 63, 64, 12001} {
		if got, errno := missive.Identity(sample(n)); got != "" || errno != api.ErrSize {
			t.Errorf("P5: Identity of %d bytes: %x, %d", n, got, errno)
		}
		for _, data := range []int{0, 1, 12000, 12001} {
			if got, errno := missive.Sign(sample(n), sample(data)); got != "" || errno != api.ErrSize {
				t.Errorf("P5: Sign of %d and %d bytes: %x, %d", n, data, got, errno)
			}
		}
	}
}

func TestWrongSizesOfVerifying(t *testing.T) {
	identity, signature := signed(t, sample(32), "data")
	for _, n := range []int{0, 1, 31, 33, 64, 65, 12001} {
		for _, m := range []int{0, 1, 32, 63, 64, 65, 128, 12001} {
			checkVerify(t, stretched(identity, n), "data", stretched(signature, m), false)
		}
	}
	for _, m := range []int{0, 1, 32, 63, 65, 128, 12001} {
		checkVerify(t, identity, "data", stretched(signature, m), false)
		checkVerify(t, identity, sample(12001), stretched(signature, m), false)
	}
	checkVerify(t, identity, "data", "x"+signature, false)
	checkVerify(t, identity, "data", signature[1:], false)
	checkVerify(t, identity[1:], "data", signature, false)
	checkVerify(t, identity, "data", signature, true)
	// A point of few multiples takes signatures of bytes 0 for much: sizes must not be filled up with them.
	one := withByte(repeated(0), 0, 1)
	checkVerify(t, one, "data", one+repeated(0), true)
	checkVerify(t, one, "data", one, false)
	checkVerify(t, one, "data", one+repeated(0)[1:], false)
	checkVerify(t, one[:1], "data", one+repeated(0), false)
	checkVerify(t, one+"\x00", "data", one+repeated(0), false)
	checkVerify(t, one, "data", one+repeated(0)+"\x00", false)
}

// stretched is the text with bytes 0 behind it, or as much of it as has so many bytes.
func stretched(text string, n int) string {
	return (text + strings.Repeat("\x00", max(0, n-len(text))))[:n]
}

func TestVerifyWithOneByteSpoilt(t *testing.T) {
	data := sample(40)
	identity, signature := signed(t, sample(32), data)
	for which, text := range []string{identity, data, signature} {
		for at := range text {
			for _, change := range []byte{1, 16, 128, 255} {
				wrong := [3]string{identity, data, signature}
				wrong[which] = withByte(text, at, change)
				checkVerify(t, wrong[0], wrong[1], wrong[2], false)
			}
		}
	}
	checkVerify(t, identity, data, signature, true)
}

func TestVerifyOfOtherData(t *testing.T) {
	identity, signature := signed(t, sample(32), "data")
	_, other := signed(t, sample(32), "date")
	for _, data := range []string{"", "d", "dat", "data\x00", "\x00data", "date", "atad", "Data", identity + "data", signature, sample(12000)} {
		checkVerify(t, identity, data, signature, false)
	}
	checkVerify(t, identity, "data", other, false)
	checkVerify(t, identity, "data", signature[:32]+other[32:], false)
	checkVerify(t, identity, "data", other[:32]+signature[32:], false)
	checkVerify(t, identity, "data", signature[32:]+signature[:32], false)
}

// A right signature's S with multiples of Q added makes the same points, but is not below Q; nor is Q less S the same.
func TestVerifyOfOtherSpellingsOfS(t *testing.T) {
	for _, data := range []string{"", "data", sample(300)} {
		identity, signature := signed(t, sample(32), data)
		s := plainNumber(signature[32:])
		if s.Cmp(signOrder()) >= 0 {
			t.Errorf("P5: S is not below Q: %x", s)
		}
		checkVerify(t, identity, data, signature[:32]+plainBytes(new(big.Int).Sub(signOrder(), s), 32), false)
		for times := int64(1); ; times++ {
			more := new(big.Int).Mul(signOrder(), big.NewInt(times))
			if more.Add(more, s).BitLen() > 256 {
				break
			}
			checkVerify(t, identity, data, signature[:32]+plainBytes(more, 32), false)
		}
	}
}

// The identity (0, 1) lets S be chosen: R is S times B.
func TestVerifyOfSAtItsEdges(t *testing.T) {
	identity := pointBytes(nowhere())
	full := new(big.Int).Sub(twoTo(256), big.NewInt(1))
	numbers := []*big.Int{full, twoTo(252), new(big.Int).Sub(twoTo(252), big.NewInt(1)), twoTo(253), twoTo(255)}
	for _, times := range []int64{0, 1, 2, 8, 15} {
		for off := int64(-2); off <= 2; off++ {
			number := new(big.Int).Mul(signOrder(), big.NewInt(times))
			if number.Add(number, big.NewInt(off)).Sign() >= 0 {
				numbers = append(numbers, number)
			}
		}
	}
	for _, s := range numbers {
		first := pointBytes(pointTimes(s, pointB(t)))
		want := s.Cmp(signOrder()) < 0
		checkVerify(t, identity, "data", first+plainBytes(s, 32), want)
		below := new(big.Int).Mod(s, signOrder())
		checkVerify(t, identity, "data", first+plainBytes(below, 32), true)
		checkVerify(t, identity, "data", first+plainBytes(below.Add(below, big.NewInt(1)), 32), false)
	}
}

// Of all identities of few multiples, with first halves that have a part of such a point: some are right, most are not.
func TestVerifyOfPointsOfFewMultiples(t *testing.T) {
	few := fewPoints(t)
	right := 0
	for _, identity := range few {
		for _, with := range few {
			for _, s := range []*big.Int{new(big.Int), big.NewInt(5)} {
				first := pointBytes(pointSum(pointTimes(s, pointB(t)), with))
				for _, data := range []string{"", "data"} {
					signature := first + plainBytes(s, 32)
					want := plainRight(t, pointBytes(identity), data, signature)
					checkVerify(t, pointBytes(identity), data, signature, want)
					if want {
						right++
					}
				}
			}
		}
	}
	if right < 8 || right > 128 {
		t.Errorf("%d were right", right)
	}
}

// An identity that is a sum with a point of few multiples: k times that point must be nothing, or stand in R.
func TestVerifyOfMixedPoints(t *testing.T) {
	seed := sample(32)
	h := libraryDigest(seed)
	own := pointTimes(plainSecret(h[:32]), pointB(t))
	right, wrong := 0, 0
	for n, with := range fewPoints(t) {
		identity := pointBytes(pointSum(own, with))
		for i := range 6 {
			data := sample(i)
			r := plainModQ(libraryDigest(data))
			first := pointBytes(pointTimes(r, pointB(t)))
			k := plainK(first, identity, data)
			want := new(big.Int).And(new(big.Int).Mul(k, big.NewInt(int64(n))), big.NewInt(7)).Sign() == 0
			last := new(big.Int).Mul(k, plainSecret(h[:32]))
			signature := first + plainBytes(last.Add(last, r).Mod(last, signOrder()), 32)
			if plainRight(t, identity, data, signature) != want {
				t.Fatalf("of %x: %x", identity, signature)
			}
			checkVerify(t, identity, data, signature, want)
			if want {
				right++
			} else {
				wrong++
			}
		}
	}
	if right < 8 || wrong < 8 {
		t.Errorf("%d were right, %d wrong", right, wrong)
	}
}

// notPoints are bytes that are no point, and that a looser reading takes for one of few multiples.
func notPoints() []string {
	p, one := fieldModulus(), big.NewInt(1)
	odd := func(y *big.Int) string { return plainBytes(new(big.Int).Add(y, twoTo(255)), 32) }
	more, less := new(big.Int).Add(p, one), new(big.Int).Sub(p, one)
	return []string{plainBytes(p, 32), odd(p), plainBytes(more, 32), odd(more), odd(one), odd(less)}
}

func TestIdentitiesThatAreNoPoints(t *testing.T) {
	for _, identity := range notPoints() {
		a, found := loosePoint(identity)
		if _, is := strictPoint(identity); !found || is {
			t.Fatalf("%x is not such bytes", identity)
		}
		met := 0
		for i := range 24 {
			s := big.NewInt(int64(i))
			signature := pointBytes(pointTimes(s, pointB(t))) + plainBytes(s, 32)
			if equalHalves(t, a, identity, "data", signature) {
				met++
			}
			checkVerify(t, identity, "data", signature, false)
		}
		if met == 0 {
			t.Errorf("no signature was right for %x in the looser reading", identity)
		}
	}
	// The same points, as the document writes them.
	for _, identity := range notPoints() {
		a, _ := loosePoint(identity)
		for i := range 12 {
			s := big.NewInt(int64(i))
			signature := pointBytes(pointTimes(s, pointB(t))) + plainBytes(s, 32)
			checkVerify(t, pointBytes(a), "data", signature, equalHalves(t, a, pointBytes(a), "data", signature))
		}
	}
}

// All y about 0, p and 2^255, with both bits of x, most of which no signature can be made for.
func TestVerifyAtTheEdgesOfIdentities(t *testing.T) {
	_, signature := signed(t, sample(32), "data")
	one := pointBytes(nowhere())
	none := 0
	for _, about := range []*big.Int{new(big.Int), fieldModulus(), twoTo(255)} {
		for off := int64(-20); off <= 20; off++ {
			y := new(big.Int).Add(about, big.NewInt(off))
			if y.Sign() < 0 || y.BitLen() > 255 {
				continue
			}
			for _, identity := range []string{plainBytes(y, 32), plainBytes(new(big.Int).Add(y, twoTo(255)), 32)} {
				if _, found := loosePoint(identity); !found {
					none++
				}
				checkVerify(t, identity, "data", signature, false)
				checkVerify(t, identity, "data", one+repeated(0), plainRight(t, identity, "data", one+repeated(0)))
			}
		}
	}
	if none < 20 {
		t.Errorf("only of %d there was no x", none)
	}
}

// First halves that tell a point otherwise than the document does, or none.
func TestFirstHalvesThatAreNoPoints(t *testing.T) {
	few := fewPoints(t)
	for _, first := range notPoints() {
		met := 0
		a, _ := loosePoint(first)
		for _, identity := range few {
			for i := range 4 {
				data := sample(i)
				k := plainK(first, pointBytes(identity), data)
				if pointBytes(pointLess(nowhere(), pointTimes(k, identity))) == pointBytes(a) {
					met++
				}
				checkVerify(t, pointBytes(identity), data, first+repeated(0), false)
			}
		}
		if met == 0 {
			t.Errorf("%x was never the point that is asked for", first)
		}
	}
	identity, signature := signed(t, sample(32), "data")
	for _, first := range []string{repeated(0), repeated(255), repeated(2), withByte(repeated(0), 0, 2), withByte(repeated(255), 31, 128)} {
		checkVerify(t, identity, "data", first+signature[32:], false)
		checkVerify(t, pointBytes(nowhere()), "data", first+signature[32:], false)
		checkVerify(t, pointBytes(nowhere()), "data", first+repeated(0), false)
	}
}

// P9: what was signed is right; P1: and is signed alike twice, of texts that stay as they were.
func TestWhatWasSignedIsRight(t *testing.T) {
	seeds := append(edgeSecrets(), repeated(1))
	for i, seed := range seeds {
		data := sample(i * 11)
		before := []string{strings.Clone(seed), strings.Clone(data)}
		identity, signature := signed(t, seed, data)
		beside := []string{strings.Clone(identity), strings.Clone(signature)}
		againIdentity, againSignature := signed(t, seed, data)
		if againIdentity != identity || againSignature != signature {
			t.Errorf("P1: of %x: %x, then %x", seed, signature, againSignature)
		}
		checkVerify(t, identity, data, signature, true)
		checkVerify(t, identity, data, signature, true)
		if !slices.Equal(before, []string{seed, data}) || !slices.Equal(beside, []string{identity, signature}) {
			t.Errorf("P1: a text was changed: %x", seed)
		}
	}
}

// Whose signature it is can be told, and of which data: of all pairs only the right ones are right.
func TestVerifyTellsSignersApart(t *testing.T) {
	seeds := edgeSecrets()[:6]
	for i, seed := range seeds {
		_, signature := signed(t, seed, sample(i))
		for j, other := range seeds {
			identity, _ := signed(t, other, "")
			for n := range len(seeds) {
				checkVerify(t, identity, sample(n), signature, i == j && i == n)
			}
		}
	}
}

// P1: nothing is kept between calls, nor shared by calls at the same time.
func TestSigningHangsOnArgumentsAlone(t *testing.T) {
	var group sync.WaitGroup
	for worker := range 8 {
		group.Go(func() {
			for i := range 10 {
				seed, data := sample(i + worker + 32)[i+worker:], sample(i*37+worker)
				key := ed25519.NewKeyFromSeed([]byte(seed))
				want := string(ed25519.Sign(key, []byte(data)))
				missive.Sign(sample(32), data)
				missive.Verify(sample(32), data, want)
				missive.Identity(sample(31))
				checkIdentity(t, seed, string(key[32:]))
				checkSign(t, seed, data, want)
				checkVerify(t, string(key[32:]), data, want, true)
			}
		})
	}
	group.Wait()
}
