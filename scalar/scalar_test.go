package scalar

import (
	"math/big"
	"math/rand"
	"slices"
	"strings"
	"testing"
)

func twoTo(exponent uint) *big.Int { return new(big.Int).Lsh(big.NewInt(1), exponent) }

// order is Q as the document writes it.
func order() *big.Int {
	more, _ := new(big.Int).SetString("27742317777372353535851937790883648493", 10)
	return more.Add(more, twoTo(252))
}

func reduced(number *big.Int) *big.Int { return new(big.Int).Mod(number, order()) }

// whole is the number that the words make.
func whole(a [4]uint64) *big.Int {
	sum := new(big.Int)
	for i, word := range a {
		sum.Add(sum, new(big.Int).Lsh(new(big.Int).SetUint64(word), uint(64*i)))
	}
	return sum
}

// bytesOf tells the n lowest bytes of a number, the lowest first.
func bytesOf(number *big.Int, n int) string {
	out := new(big.Int).Mod(number, twoTo(uint(8*n))).FillBytes(make([]byte, n))
	slices.Reverse(out)
	return string(out)
}

// numbers are those about 0, about multiples of Q and about powers of 2, and some by chance; all have at most 64 bytes.
func numbers() []*big.Int {
	var out []*big.Int
	about := []*big.Int{new(big.Int), twoTo(64), twoTo(128), twoTo(192), twoTo(252), twoTo(253), twoTo(255), twoTo(256), twoTo(511), twoTo(512)}
	for _, times := range []int64{1, 2, 3, 8, 15, 16} {
		about = append(about, new(big.Int).Mul(order(), big.NewInt(times)))
	}
	about = append(about, new(big.Int).Mul(order(), order()))
	greatest := new(big.Int).Div(twoTo(512), order())
	about = append(about, greatest.Mul(greatest, order()))
	for _, number := range about {
		for off := int64(-2); off <= 2; off++ {
			near := new(big.Int).Add(number, big.NewInt(off))
			if near.Sign() >= 0 && near.BitLen() <= 512 {
				out = append(out, near)
			}
		}
	}
	chance := rand.New(rand.NewSource(3))
	for range 30 {
		out = append(out, new(big.Int).Rand(chance, twoTo(512)), new(big.Int).Rand(chance, order()))
	}
	return out
}

// check holds a number against what is asked for; its words must be below Q.
func check(t *testing.T, what string, got Number, want *big.Int) {
	t.Helper()
	if whole(got).Cmp(reduced(want)) != 0 {
		t.Errorf("%s: %x, want %x", what, whole(got), reduced(want))
	}
}

func TestModulus(t *testing.T) {
	if whole(modulus()).Cmp(order()) != 0 || order().BitLen() != Bits || !order().ProbablyPrime(20) {
		t.Errorf("Q is %x of %d bits", whole(modulus()), order().BitLen())
	}
}

func TestOf(t *testing.T) {
	for _, number := range numbers() {
		for _, n := range []int{32, 33, 64, 65} {
			if number.BitLen() <= 8*n {
				check(t, "of bytes", Of(bytesOf(number, n)), number)
			}
		}
	}
}

func TestOfTheNamedEdges(t *testing.T) {
	one, below := big.NewInt(1), new(big.Int).Sub(order(), big.NewInt(1))
	for _, n := range []int{32, 64} {
		for _, edge := range []struct{ number, want *big.Int }{
			{new(big.Int), new(big.Int)}, {one, one}, {below, below}, {order(), new(big.Int)}, {new(big.Int).Add(order(), one), one},
		} {
			if got := Of(bytesOf(edge.number, n)); whole(got).Cmp(edge.want) != 0 {
				t.Errorf("%x in %d bytes: %x", edge.number, n, got)
			}
		}
		full := new(big.Int).Sub(twoTo(uint(8*n)), one)
		check(t, "of bytes 255", Of(strings.Repeat("\xff", n)), full)
	}
	if got := Of(""); got != (Number{}) {
		t.Errorf("of no bytes: %x", got)
	}
}

func TestOfEveryBit(t *testing.T) {
	for bit := range uint(512) {
		check(t, "one bit", Of(bytesOf(twoTo(bit), 64)), twoTo(bit))
	}
}

// Just the numbers below Q are told by the bytes that they were made of.
func TestBytes(t *testing.T) {
	for _, number := range numbers() {
		if number.BitLen() > 256 {
			continue
		}
		from := bytesOf(number, Size)
		got := Of(from).Bytes()
		if got != bytesOf(reduced(number), Size) {
			t.Errorf("%x as bytes: %x", number, got)
		}
		if (got == from) != (number.Cmp(order()) < 0) {
			t.Errorf("%x is told as %x", from, got)
		}
	}
}

func TestBit(t *testing.T) {
	for _, number := range numbers() {
		a := Of(bytesOf(number, 64))
		for at := range Bits {
			if got, want := a.Bit(at), reduced(number).Bit(at); got != uint64(want) {
				t.Fatalf("bit %d of %x: %d", at, a, got)
			}
		}
	}
}

func TestSumsAndProducts(t *testing.T) {
	for _, x := range numbers() {
		for _, y := range numbers() {
			a, b := Of(bytesOf(reduced(x), Size)), Of(bytesOf(reduced(y), Size))
			check(t, "sum", a.Plus(b), new(big.Int).Add(x, y))
			check(t, "product", a.Times(b), new(big.Int).Mul(x, y))
		}
	}
}

func TestLowered(t *testing.T) {
	for _, about := range []*big.Int{new(big.Int), order(), new(big.Int).Add(order(), order())} {
		for off := int64(-3); off <= 3; off++ {
			number := new(big.Int).Add(about, big.NewInt(off))
			if number.Sign() < 0 || number.Cmp(new(big.Int).Add(order(), order())) >= 0 {
				continue
			}
			var a Number
			for i := range a {
				a[i] = new(big.Int).Rsh(number, uint(64*i)).Uint64()
			}
			check(t, "lowered", a.lowered(), number)
		}
	}
}
