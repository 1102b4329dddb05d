package curve

import (
	"math/big"
	"math/rand"
	"slices"
	"testing"

	"missive/scalar"
)

func twoTo(exponent uint) *big.Int { return new(big.Int).Lsh(big.NewInt(1), exponent) }

func modulus() *big.Int { return new(big.Int).Sub(twoTo(255), big.NewInt(19)) }

func order() *big.Int {
	more, _ := new(big.Int).SetString("27742317777372353535851937790883648493", 10)
	return more.Add(more, twoTo(252))
}

// bytesOf tells the 32 lowest bytes of a number, the lowest first.
func bytesOf(number *big.Int) string {
	out := new(big.Int).Mod(number, twoTo(256)).FillBytes(make([]byte, Size))
	slices.Reverse(out)
	return string(out)
}

func numberOf(bytes string) *big.Int {
	turned := []byte(bytes)
	slices.Reverse(turned)
	return new(big.Int).SetBytes(turned)
}

func scalarOf(number *big.Int) scalar.Number { return scalar.Of(bytesOf(number)) }

// A plain point is one with whole numbers for x and y.
type plain struct{ x, y *big.Int }

func minus(x *big.Int) *big.Int { return new(big.Int).Neg(x) }

func plus(x, y *big.Int) *big.Int { z := new(big.Int).Add(x, y); return z.Mod(z, modulus()) }

func times(x, y *big.Int) *big.Int { z := new(big.Int).Mul(x, y); return z.Mod(z, modulus()) }

func over(x, y *big.Int) *big.Int { return times(x, new(big.Int).ModInverse(y, modulus())) }

func plainFactor() *big.Int { return over(big.NewInt(-121665), big.NewInt(121666)) }

// sum is that of two points as the document words it.
func sum(a, b plain) plain {
	e := times(plainFactor(), times(times(a.x, b.x), times(a.y, b.y)))
	return plain{
		over(plus(times(a.x, b.y), times(b.x, a.y)), plus(big.NewInt(1), e)),
		over(plus(times(a.y, b.y), times(a.x, b.x)), plus(big.NewInt(1), minus(e))),
	}
}

func multiple(n *big.Int, a plain) plain {
	out := plain{new(big.Int), big.NewInt(1)}
	for at := n.BitLen() - 1; at >= 0; at-- {
		out = sum(out, out)
		if n.Bit(at) == 1 {
			out = sum(out, a)
		}
	}
	return out
}

func (a plain) isPoint() bool {
	xx, yy := times(a.x, a.x), times(a.y, a.y)
	return plus(yy, minus(xx)).Cmp(plus(big.NewInt(1), times(plainFactor(), times(xx, yy)))) == 0
}

func (a plain) bytes() string {
	return bytesOf(new(big.Int).Add(a.y, new(big.Int).Lsh(big.NewInt(int64(a.x.Bit(0))), 255)))
}

// plainOf is the point of bytes, if they are one: it looks at all that the document asks for, one after the other.
func plainOf(from string) (plain, bool) {
	y := numberOf(from)
	odd := y.Bit(255)
	y.SetBit(y, 255, 0)
	if y.Cmp(modulus()) >= 0 {
		return plain{}, false
	}
	yy := times(y, y)
	xx := over(plus(yy, big.NewInt(-1)), plus(big.NewInt(1), times(plainFactor(), yy)))
	x := new(big.Int).ModSqrt(xx, modulus())
	if x == nil {
		return plain{}, false
	}
	for _, one := range []*big.Int{x, plus(new(big.Int), minus(x))} {
		if one.Bit(0) == odd {
			return plain{one, y}, true
		}
	}
	return plain{}, false
}

// told is a point's x and y.
func told(a Point) plain {
	part := a.z.Inverse()
	return plain{numberOf(a.x.Times(part).Bytes()), numberOf(a.y.Times(part).Bytes())}
}

func check(t *testing.T, what string, got Point, want plain) {
	t.Helper()
	at := told(got)
	if at.x.Cmp(want.x) != 0 || at.y.Cmp(want.y) != 0 {
		t.Errorf("%s: (%x, %x), want (%x, %x)", what, at.x, at.y, want.x, want.y)
	}
	if got.Bytes() != want.bytes() {
		t.Errorf("%s as bytes: %x, want %x", what, got.Bytes(), want.bytes())
	}
}

func mustBePoint(t *testing.T, from string) (Point, plain) {
	t.Helper()
	made, found := Of(from)
	want, is := plainOf(from)
	if !found || !is {
		t.Fatalf("%x is no point", from)
	}
	return made, want
}

// few are the eight points of which 8 times is (0, 1), as bytes.
func few(t *testing.T) []string {
	t.Helper()
	// Q times a point is one of them; this y brings one that has eight multiples.
	for y := int64(2); ; y++ {
		a, is := plainOf(bytesOf(big.NewInt(y)))
		if !is {
			continue
		}
		eighth := multiple(order(), a)
		if four := multiple(big.NewInt(4), eighth); four.y.Cmp(big.NewInt(1)) == 0 {
			continue
		}
		var out []string
		for n := range int64(8) {
			out = append(out, multiple(big.NewInt(n), eighth).bytes())
		}
		return out
	}
}

// some are points of all kinds: of few multiples, multiples of B, and sums of both.
func some(t *testing.T) []string {
	t.Helper()
	out := few(t)
	base, _ := plainOf(Base().Bytes())
	for _, n := range []*big.Int{big.NewInt(1), big.NewInt(2), big.NewInt(7), new(big.Int).Sub(order(), big.NewInt(1)), numberOf("a number by which B is taken..")} {
		a := multiple(n, base)
		eighth, _ := plainOf(out[1])
		out = append(out, a.bytes(), sum(a, eighth).bytes())
	}
	return out
}

func TestFactor(t *testing.T) {
	if got := numberOf(factor().Bytes()); got.Cmp(plainFactor()) != 0 {
		t.Errorf("D is %x", got)
	}
}

func TestBase(t *testing.T) {
	at := told(Base())
	if at.y.Cmp(over(big.NewInt(4), big.NewInt(5))) != 0 || at.x.Bit(0) != 0 || !at.isPoint() {
		t.Errorf("B is (%x, %x)", at.x, at.y)
	}
	if last := Base().Times(scalarOf(new(big.Int).Sub(order(), big.NewInt(1)))); last.Plus(Base()).Bytes() != bytesOf(big.NewInt(1)) {
		t.Errorf("Q times B is %x", last.Plus(Base()).Bytes())
	}
}

// All bytes about the edges of y, with both lowest bits of x.
func TestOfAtTheEdges(t *testing.T) {
	p := modulus()
	are := 0
	for _, about := range []*big.Int{new(big.Int), p, twoTo(255), twoTo(51), twoTo(204), over(big.NewInt(4), big.NewInt(5))} {
		for off := int64(-60); off <= 60; off++ {
			y := new(big.Int).Add(about, big.NewInt(off))
			if y.Sign() < 0 || y.BitLen() > 255 {
				continue
			}
			for _, from := range []string{bytesOf(y), bytesOf(new(big.Int).Add(y, twoTo(255)))} {
				want, is := plainOf(from)
				got, found := Of(from)
				if found != is || !found && got != (Point{}) {
					t.Fatalf("%x: %v, %v", from, got, found)
				}
				if is {
					are++
					check(t, "a point of bytes", got, want)
				}
			}
		}
	}
	if are < 200 {
		t.Errorf("only %d were points", are)
	}
}

func TestOfWhatIsNoPoint(t *testing.T) {
	p := modulus()
	odd := func(y *big.Int) string { return bytesOf(new(big.Int).Add(y, twoTo(255))) }
	for what, y := range map[string]*big.Int{"p": p, "p + 1": new(big.Int).Add(p, big.NewInt(1)), "2^255 - 1": new(big.Int).Sub(twoTo(255), big.NewInt(1)), "2": big.NewInt(2)} {
		for _, from := range []string{bytesOf(y), odd(y)} {
			if got, found := Of(from); found {
				t.Errorf("y = %s: %x", what, got.Bytes())
			}
		}
	}
	for _, y := range []*big.Int{big.NewInt(1), new(big.Int).Sub(p, big.NewInt(1))} {
		if got, found := Of(odd(y)); found {
			t.Errorf("x = 0 with the lowest bit 1: %x", got.Bytes())
		}
		check(t, "x = 0", mustBe(t, bytesOf(y)), plain{new(big.Int), y})
	}
}

func mustBe(t *testing.T, from string) Point {
	t.Helper()
	made, _ := mustBePoint(t, from)
	return made
}

func TestOfByChance(t *testing.T) {
	chance := rand.New(rand.NewSource(5))
	for range 400 {
		from := bytesOf(new(big.Int).Rand(chance, twoTo(256)))
		want, is := plainOf(from)
		got, found := Of(from)
		if found != is {
			t.Fatalf("%x: %v", from, found)
		}
		if is {
			check(t, "a point of bytes", got, want)
		}
	}
}

// Sums of all pairs: with itself, with what it is negated, with (0, 1), and with points of few multiples.
func TestSums(t *testing.T) {
	points := some(t)
	for _, from := range points {
		a, x := mustBePoint(t, from)
		check(t, "negated", a.Negated(), plain{plus(new(big.Int), minus(x.x)), x.y})
		check(t, "sum with the negated", a.Plus(a.Negated()), plain{new(big.Int), big.NewInt(1)})
		for _, with := range points {
			b, y := mustBePoint(t, with)
			both := sum(x, y)
			if !both.isPoint() {
				t.Fatalf("%x and %x: the sum is no point", from, with)
			}
			check(t, "sum", a.Plus(b), both)
			// Once more, of quotients whose z is not 1.
			check(t, "sum of sums", a.Plus(b).Plus(b.Plus(b)), sum(both, sum(y, y)))
		}
	}
}

func TestMultiples(t *testing.T) {
	numbers := []*big.Int{new(big.Int).Sub(order(), big.NewInt(1)), new(big.Int).Sub(order(), big.NewInt(2)), new(big.Int).Sub(twoTo(252), big.NewInt(1)), twoTo(252), twoTo(251)}
	for n := range int64(18) {
		numbers = append(numbers, big.NewInt(n))
	}
	chance := rand.New(rand.NewSource(6))
	for range 3 {
		numbers = append(numbers, new(big.Int).Rand(chance, order()))
	}
	for _, from := range some(t) {
		a, x := mustBePoint(t, from)
		for _, n := range numbers {
			check(t, "multiple", a.Times(scalarOf(n)), multiple(n, x))
		}
	}
}

func TestPointsOfFewMultiples(t *testing.T) {
	all := few(t)
	for i, from := range all {
		if slices.Index(all, from) != i {
			t.Errorf("%x stands there twice", from)
		}
		a := mustBe(t, from)
		for n := range int64(17) {
			if got := a.Times(scalarOf(big.NewInt(n))).Bytes(); got != all[i*int(n)%8] {
				t.Errorf("%d times %x: %x", n, from, got)
			}
		}
	}
}

func TestChoose(t *testing.T) {
	a, b := Base(), Base().Plus(Base())
	if choose(0, a, b) != a || choose(1, a, b) != b {
		t.Error("the other one was chosen")
	}
}
