package field

import (
	"math/big"
	"slices"
	"strings"
	"testing"
)

// A part must be below this.
const partLimit = 1 << 52

func twoTo(exponent uint) *big.Int { return new(big.Int).Lsh(big.NewInt(1), exponent) }

func modulus() *big.Int { return new(big.Int).Sub(twoTo(255), big.NewInt(19)) }

// whole is the number that the parts make, not brought below p.
func whole(a Number) *big.Int {
	sum := new(big.Int)
	for i, part := range a {
		sum.Add(sum, new(big.Int).Lsh(new(big.Int).SetUint64(part), uint(51*i)))
	}
	return sum
}

func reduced(number *big.Int) *big.Int { return new(big.Int).Mod(number, modulus()) }

// bytesOf tells the 32 lowest bytes of a number, the lowest first.
func bytesOf(number *big.Int) string {
	out := new(big.Int).Mod(number, twoTo(256)).FillBytes(make([]byte, Size))
	slices.Reverse(out)
	return string(out)
}

// split makes parts of a number that parts can hold, the highest first, each as great as it can be.
func split(number *big.Int) Number {
	var out Number
	left := new(big.Int).Set(number)
	for i := len(out) - 1; i >= 0; i-- {
		part := new(big.Int).Rsh(left, uint(51*i))
		if part.Cmp(big.NewInt(partLimit-1)) > 0 {
			part.SetUint64(partLimit - 1)
		}
		out[i] = part.Uint64()
		left.Sub(left, part.Lsh(part, uint(51*i)))
	}
	return out
}

// moved answers the same number with more in its lower parts.
func moved(a Number) Number {
	for i := range 4 {
		if a[i] < 1<<51 && a[i+1] > 0 {
			a[i] += 1 << 51
			a[i+1]--
		}
	}
	return a
}

// edges are numbers of which every part is at one of its limits, or about.
func edges() []Number {
	all := []Number{{}}
	for i := range len(Number{}) {
		var more []Number
		for _, a := range all {
			for _, part := range []uint64{0, 1<<51 - 19, 1<<51 - 1, 1 << 51, partLimit - 1} {
				a[i] = part
				more = append(more, a)
			}
		}
		all = more
	}
	return all
}

// somewhat is a shorter list of the same kind, to make pairs of, with numbers about 0, p, 2p, 2^255 and 2^256.
func somewhat() []Number {
	var out []Number
	for i, a := range edges() {
		if i%61 == 0 || i == 3124 {
			out = append(out, a)
		}
	}
	for _, about := range []*big.Int{big.NewInt(2), modulus(), new(big.Int).Add(modulus(), modulus()), twoTo(255), twoTo(256)} {
		for off := int64(-2); off <= 2; off++ {
			a := split(new(big.Int).Add(about, big.NewInt(off)))
			out = append(out, a, moved(a))
		}
	}
	return out
}

// check holds a number against what is asked for, and its parts against their limit.
func check(t *testing.T, what string, got Number, want *big.Int) {
	t.Helper()
	for _, part := range got {
		if part >= partLimit {
			t.Fatalf("%s: a part is too great: %x", what, got)
		}
	}
	if reduced(whole(got)).Cmp(reduced(want)) != 0 {
		t.Fatalf("%s: %x, want %x", what, reduced(whole(got)), reduced(want))
	}
}

func TestOfEveryBit(t *testing.T) {
	for bit := range uint(256) {
		want := new(big.Int).Mod(twoTo(bit), twoTo(255))
		got := Of(bytesOf(twoTo(bit)))
		if whole(got).Cmp(want) != 0 {
			t.Errorf("bit %d: %x", bit, got)
		}
		if bit < 255 && got.Bytes() != bytesOf(want) {
			t.Errorf("bit %d as bytes: %x", bit, got.Bytes())
		}
	}
}

func TestOfLeavesTheHighestBitOut(t *testing.T) {
	for _, number := range []*big.Int{new(big.Int), big.NewInt(9), modulus(), new(big.Int).Sub(twoTo(255), big.NewInt(1))} {
		low := Of(bytesOf(number))
		if high := Of(bytesOf(new(big.Int).Add(number, twoTo(255)))); high != low || whole(low).Cmp(number) != 0 {
			t.Errorf("%x: %x with the bit, %x without", number, high, low)
		}
	}
	if got := Of(strings.Repeat("\xff", Size)); got != (Number{partMask, partMask, partMask, partMask, partMask}) {
		t.Errorf("all bits: %x", got)
	}
}

func TestOfKeepsPartsApart(t *testing.T) {
	for i := range len(Number{}) {
		var one Number
		one[i] = partMask
		if got := Of(bytesOf(whole(one))); got != one {
			t.Errorf("part %d: %x", i, got)
		}
	}
}

// The last reduction: at 0, 1, p - 1, p and beyond, up to the greatest number that parts can hold.
func TestBytesAboutMultiplesOfP(t *testing.T) {
	p := modulus()
	greatest := whole(Number{partLimit - 1, partLimit - 1, partLimit - 1, partLimit - 1, partLimit - 1})
	for _, about := range []*big.Int{new(big.Int), p, twoTo(255), new(big.Int).Add(p, p), twoTo(256), greatest} {
		for off := int64(-40); off <= 40; off++ {
			number := new(big.Int).Add(about, big.NewInt(off))
			if number.Sign() < 0 || number.Cmp(greatest) > 0 {
				continue
			}
			a := split(number)
			for _, form := range []Number{a, moved(a)} {
				if got := form.Bytes(); got != bytesOf(reduced(number)) {
					t.Errorf("%x as parts %x: %x", number, form, got)
				}
			}
		}
	}
}

func TestBytesOfPartsAtTheirLimits(t *testing.T) {
	for _, a := range edges() {
		got := a.Bytes()
		if got != bytesOf(reduced(whole(a))) {
			t.Fatalf("%x: %x", a, got)
		}
		if again := Of(got).Bytes(); again != got {
			t.Fatalf("%x, once more: %x", got, again)
		}
	}
}

func TestSumsAndDifferences(t *testing.T) {
	for _, a := range somewhat() {
		for _, b := range somewhat() {
			check(t, "sum", a.Plus(b), new(big.Int).Add(whole(a), whole(b)))
			check(t, "difference", a.Minus(b), new(big.Int).Sub(whole(a), whole(b)))
		}
	}
}

func TestSumAndDifferenceAtAllLimits(t *testing.T) {
	greatest := Number{partLimit - 1, partLimit - 1, partLimit - 1, partLimit - 1, partLimit - 1}
	for _, a := range edges() {
		check(t, "sum", a.Plus(greatest), new(big.Int).Add(whole(a), whole(greatest)))
		check(t, "difference", a.Minus(greatest), new(big.Int).Sub(whole(a), whole(greatest)))
		check(t, "difference", greatest.Minus(a), new(big.Int).Sub(whole(greatest), whole(a)))
		check(t, "difference", Number{}.Minus(a), new(big.Int).Neg(whole(a)))
	}
}

func TestNegated(t *testing.T) {
	for _, a := range append(somewhat(), edges()...) {
		check(t, "negated", a.Negated(), new(big.Int).Neg(whole(a)))
		check(t, "sum with the negated", a.Plus(a.Negated()), new(big.Int))
	}
}

// The lowest bit is that of the number below p: p is odd, so that it says how often p is held.
func TestLowestBit(t *testing.T) {
	for _, a := range append(somewhat(), edges()...) {
		if got, want := uint(a.LowestBit()), reduced(whole(a)).Bit(0); got != want {
			t.Fatalf("%x: %d", a, got)
		}
	}
}

func TestSwap(t *testing.T) {
	all := somewhat()
	for i, a := range all {
		b := all[len(all)-1-i]
		if first, second := Swap(0, a, b); first != a || second != b {
			t.Errorf("0: %x, %x of %x, %x", first, second, a, b)
		}
		if first, second := Swap(1, a, b); first != b || second != a {
			t.Errorf("1: %x, %x of %x, %x", first, second, a, b)
		}
	}
}
