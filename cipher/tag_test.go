package cipher

import (
	"encoding/hex"
	"math/big"
	"slices"
	"strings"
	"testing"
)

// sample makes n bytes that do not repeat at the size of a block.
func sample(n int) string {
	out := make([]byte, n)
	for i := range out {
		out[i] = byte(i*i + 7*i + i/251 + n)
	}
	return string(out)
}

func power(exponent uint) *big.Int { return new(big.Int).Lsh(big.NewInt(1), exponent) }

// modulus is 2^130 - 5.
func modulus() *big.Int { return new(big.Int).Sub(power(130), big.NewInt(5)) }

// bigOf is the number of bytes, the lowest first.
func bigOf(bytes string) *big.Int {
	turned := []byte(bytes)
	slices.Reverse(turned)
	return new(big.Int).SetBytes(turned)
}

// littleBytes tells the n lowest bytes of a number, the lowest first.
func littleBytes(number *big.Int, n int) string {
	out := new(big.Int).Mod(number, power(uint(8*n))).FillBytes(make([]byte, n))
	slices.Reverse(out)
	return string(out)
}

// plainTag works a tag out with whole numbers, as the document words it.
func plainTag(key, data string) string {
	left := []byte(key[:16])
	for _, i := range []int{3, 7, 11, 15} {
		left[i] &= 15
	}
	for _, i := range []int{4, 8, 12} {
		left[i] &= 252
	}
	r, h := bigOf(string(left)), new(big.Int)
	for len(data) > 0 {
		n := min(16, len(data))
		h.Add(h, bigOf(data[:n]))
		h.Add(h, power(uint(8*n)))
		h.Mul(h, r)
		h.Mod(h, modulus())
		data = data[n:]
	}
	return littleBytes(h.Add(h, bigOf(key[16:])), 16)
}

func checkTag(t *testing.T, key, data string) {
	t.Helper()
	if got, want := tag([]byte(key), data), plainTag(key, data); string(got[:]) != want {
		t.Errorf("of %x by %x: %x, want %x", data, key, got, want)
	}
}

func TestTagKnownAnswers(t *testing.T) {
	full, none := strings.Repeat("ff", 16), strings.Repeat("00", 16)
	one, two := "01"+none[2:], "02"+none[2:]
	wide := "01000000000000000400000000000000"
	carried := "e33594d7505e43b900000000000000003394d7505e4379cd01000000000000000000000000000000000000000000000001000000000000000000000000000000"
	for _, c := range [][3]string{
		{"85d6be7857556d337f4452fe42d506a80103808afb0db2fd4abff6af4149f51b", hex.EncodeToString([]byte("Cryptographic Forum Research Group")), "a8061dc1305136c6c22b8baf0c0127a9"},
		{none + none, strings.Repeat(none, 4), none},
		{two + none, full, "03000000000000000000000000000000"},
		{two + full, two, "03000000000000000000000000000000"},
		{one + none, full + "f0" + full[2:] + "11" + none[2:], "05000000000000000000000000000000"},
		{one + none, full + "fb" + strings.Repeat("fe", 15) + strings.Repeat("01", 16), none},
		{two + none, "fd" + full[2:], "fa" + full[2:]},
		{wide + none, carried, "14000000000000005500000000000000"},
		{wide + none, carried[:96], "13000000000000000000000000000000"},
		{full + full, strings.Repeat("ff", 64), "900fe32bc15fa8d7bca8efe4c7e37eb1"},
		{full + full, strings.Repeat("ff", 33), "86fa6a437bf4ec24a274504dc37495bc"},
		{full + full, "", full},
	} {
		got := tag([]byte(bytesOf(t, c[0])), bytesOf(t, c[1]))
		if hex.EncodeToString(got[:]) != c[2] {
			t.Errorf("of %s by %s: %x, want %s", c[1], c[0], got, c[2])
		}
	}
}

func TestTagOfAllLengths(t *testing.T) {
	full := strings.Repeat("\xff", 100)
	for n := range 100 {
		for _, key := range []string{sample(32), full[:32], full[:16] + sample(16), strings.Repeat("\x00", 32)} {
			checkTag(t, key, sample(n))
			checkTag(t, key, full[:n])
			checkTag(t, key, strings.Repeat("\x00", n))
		}
	}
}

func TestTagOfManyKeys(t *testing.T) {
	for n := range 3000 {
		checkTag(t, sample(n + 32)[n:], sample(n%67 + n/13)[n/13:])
	}
}

// With 1 as r the sums are those of the data: all numbers about 2^130 - 5, 2^129 and 2^128 come about.
func TestTagNearTheModulus(t *testing.T) {
	one := "\x01" + strings.Repeat("\x00", 15)
	for _, about := range []*big.Int{modulus(), power(130), power(129), power(128), new(big.Int).Add(modulus(), power(128))} {
		for off := int64(-12); off <= 12; off++ {
			whole := new(big.Int).Add(about, big.NewInt(off))
			for _, s := range []string{one, strings.Repeat("\xff", 16), sample(16)} {
				for _, pieces := range []int64{1, 2, 3, 4} {
					checkTag(t, one+s, spreadOver(whole, pieces))
				}
			}
		}
	}
}

// spreadOver makes data of so many pieces of 16 bytes, of which the numbers, each with 2^128, come nearest to the whole.
func spreadOver(whole *big.Int, pieces int64) string {
	rest := new(big.Int).Sub(whole, new(big.Int).Mul(power(128), big.NewInt(pieces)))
	greatest := new(big.Int).Sub(power(128), big.NewInt(1))
	var data strings.Builder
	for range pieces {
		part := new(big.Int).Set(rest)
		if part.Cmp(greatest) > 0 {
			part.Set(greatest)
		}
		if part.Sign() < 0 {
			part.SetInt64(0)
		}
		rest.Sub(rest, part)
		data.WriteString(littleBytes(part, 16))
	}
	return data.String()
}

func bigOfParts(a number) *big.Int {
	sum := new(big.Int)
	for i := len(a) - 1; i >= 0; i-- {
		sum.Lsh(sum, partBits)
		sum.Add(sum, new(big.Int).SetUint64(a[i]))
	}
	return sum
}

func partsOf(whole *big.Int) number {
	var a number
	rest := new(big.Int).Set(whole)
	for i := range a {
		a[i] = new(big.Int).And(rest, big.NewInt(partMask)).Uint64()
		rest.Rsh(rest, partBits)
	}
	a[len(a)-1] += rest.Uint64() << partBits
	return a
}

func checkLowest(t *testing.T, a number) {
	t.Helper()
	want := new(big.Int).Mod(bigOfParts(a), modulus())
	got := lowest(a)
	if got != partsOf(want) {
		t.Errorf("of %x: %x, want %x", a, got, want)
	}
}

func TestLowest(t *testing.T) {
	checkLowest(t, number{})
	for _, about := range []*big.Int{modulus(), power(130), power(129), power(128), power(52), power(26)} {
		for off := int64(-12); off <= 12; off++ {
			checkLowest(t, partsOf(new(big.Int).Add(about, big.NewInt(off))))
		}
	}
	// The second part is the one that may have more than 26 bits.
	for first := uint64(partMask - 12); first <= partMask; first++ {
		for second := uint64(partMask - 3); second < partMask+1000; second++ {
			checkLowest(t, number{first, second, partMask, partMask, partMask})
			checkLowest(t, number{partMask - first, second, partMask, partMask, partMask})
		}
	}
}

func TestCarryKeepsTheNumber(t *testing.T) {
	greatest := uint64(1)<<58 - 1
	for ways := range 1 << 10 {
		var a number
		for i := range a {
			a[i] = [4]uint64{0, partMask, partMask + 1, greatest}[ways>>(2*i)&3]
		}
		got := carry(a)
		difference := new(big.Int).Sub(bigOfParts(a), bigOfParts(got))
		if difference.Mod(difference, modulus()).Sign() != 0 {
			t.Errorf("of %x: %x is another number", a, got)
		}
		for i, part := range got {
			if part > partMask && (i != 1 || part > partMask+1<<11) {
				t.Errorf("of %x: %x has a part that is too great", a, got)
			}
		}
	}
}
