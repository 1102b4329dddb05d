package field

import (
	"math/big"
	"math/rand"
	"testing"
)

func TestProducts(t *testing.T) {
	for _, a := range somewhat() {
		for _, b := range somewhat() {
			check(t, "product", a.Times(b), new(big.Int).Mul(whole(a), whole(b)))
		}
	}
}

func TestProductsAtAllLimits(t *testing.T) {
	greatest := Number{partLimit - 1, partLimit - 1, partLimit - 1, partLimit - 1, partLimit - 1}
	for _, a := range edges() {
		check(t, "product", a.Times(greatest), new(big.Int).Mul(whole(a), whole(greatest)))
		check(t, "product", greatest.Times(a), new(big.Int).Mul(whole(a), whole(greatest)))
		check(t, "square", a.Square(), new(big.Int).Mul(whole(a), whole(a)))
	}
}

// Every part of one with every part of the other: where it lands, and how often it went beyond 2^255.
func TestProductsOfSingleParts(t *testing.T) {
	for i := range len(Number{}) {
		for j := range len(Number{}) {
			for _, part := range []uint64{1, partMask, 1 << 51, partLimit - 1} {
				var a, b Number
				a[i], b[j] = part, part
				check(t, "product", a.Times(b), new(big.Int).Mul(whole(a), whole(b)))
			}
		}
	}
}

func TestProductsAndSumsOneAfterTheOther(t *testing.T) {
	chance := rand.New(rand.NewSource(1))
	a, b := Of(bytesOf(modulus())), Number{9}
	x, y := whole(a), whole(b)
	for range 20000 {
		switch chance.Intn(4) {
		case 0:
			a, x = a.Plus(b), reduced(x.Add(x, y))
		case 1:
			a, x = a.Minus(b), reduced(x.Sub(x, y))
		case 2:
			a, x = a.Times(b), reduced(x.Mul(x, y))
		case 3:
			a, x = a.Square(), reduced(x.Mul(x, x))
		}
		a, b, x, y = b, a, y, x
		check(t, "what came out", b, y)
		if b.Bytes() != bytesOf(y) {
			t.Fatalf("%x as bytes: %x", y, b.Bytes())
		}
	}
}

func TestInverse(t *testing.T) {
	p := modulus()
	for _, a := range append(somewhat(), Number{2}, Number{121665}, Number{121666}) {
		inverse := a.Inverse()
		check(t, "inverse", inverse, new(big.Int).Exp(whole(a), new(big.Int).Sub(p, big.NewInt(2)), p))
		want := big.NewInt(1)
		if reduced(whole(a)).Sign() == 0 {
			want = new(big.Int)
		}
		check(t, "product with the inverse", inverse.Times(a), want)
	}
}

func TestPowersOfOnes(t *testing.T) {
	a := Number{3, 1, 4, 1, 5}
	for _, n := range []uint{1, 2, 3, 4, 5, 31, 62, 125, 250, 251} {
		exponent := new(big.Int).Sub(twoTo(n), big.NewInt(1))
		check(t, "power", a.ones(int(n)), new(big.Int).Exp(whole(a), exponent, modulus()))
	}
}

func TestRootOfMinusOne(t *testing.T) {
	check(t, "square", rootOfMinusOne().Square(), big.NewInt(-1))
	if rootOfMinusOne().LowestBit() != 0 {
		t.Error("it is odd")
	}
}

func TestRoots(t *testing.T) {
	all := somewhat()
	for n := range uint64(60) {
		all = append(all, Number{n}, Number{n}.Negated())
	}
	for _, a := range all {
		root, found := a.Root()
		if want := new(big.Int).ModSqrt(reduced(whole(a)), modulus()) != nil; found != want {
			t.Errorf("%x: a root was found: %v", reduced(whole(a)), found)
		}
		if found {
			check(t, "square of the root", root.Square(), whole(a))
		} else if root != (Number{}) {
			t.Errorf("%x beside no root", root)
		}
	}
}

// A square has a root, and so has 0 less a square; twice one has none, for 2 has none.
func TestRootsOfSquares(t *testing.T) {
	chance := rand.New(rand.NewSource(2))
	for range 200 {
		number := new(big.Int).Rand(chance, modulus())
		a := Of(bytesOf(number))
		for _, square := range []Number{a.Square(), a.Square().Negated()} {
			root, found := square.Root()
			if !found {
				t.Fatalf("%x has no root", square)
			}
			check(t, "square of the root", root.Square(), whole(square))
			if root, found := square.Times(Number{2}).Root(); found {
				t.Fatalf("twice %x has the root %x", square, root)
			}
		}
	}
}
