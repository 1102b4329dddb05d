package field

import "math/bits"

// A wide is a sum of products, of 128 bits.
type wide struct{ high, low uint64 }

// plus is the sum with the product of two parts.
func (w wide) plus(a, b uint64) wide {
	high, low := bits.Mul64(a, b)
	low, over := bits.Add64(w.low, low, 0)
	high, _ = bits.Add64(w.high, high, over)
	return wide{high, low}
}

// Times is the product.
func (a Number) Times(b Number) Number {
	var sums [5]wide
	for i := range a {
		for j := range b {
			if at := i + j; at < len(sums) {
				sums[at] = sums[at].plus(a[i], b[j])
			} else {
				sums[at-len(sums)] = sums[at-len(sums)].plus(a[i], beyond*b[j])
			}
		}
	}
	return narrow(sums)
}

// narrow makes a number of sums of products.
func narrow(sums [5]wide) Number {
	var out Number
	var over uint64
	for i, sum := range sums {
		low, more := bits.Add64(sum.low, over, 0)
		over = (sum.high+more)<<(64-partBits) | low>>partBits
		out[i] = low & partMask
	}
	// The highest sum has no product that went beyond, so that over is below 2^56 here, and 19 times it has room.
	out[0] += beyond * over
	return out.carried()
}

// Square is the product with itself.
func (a Number) Square() Number { return a.Times(a) }

// Inverse is the number to the power of p - 2: 1 divided by it, and 0 of 0.
func (a Number) Inverse() Number {
	// p - 2 is 32 (2^250 - 1) + 11.
	eleventh := a.squares(3).Times(a.squares(1)).Times(a)
	return a.ones(250).squares(5).Times(eleventh)
}

// Root is one of the numbers whose square is this, if there are such numbers.
func (a Number) Root() (Number, bool) {
	// To the power of (p + 3) / 8, which is 2 (2^251 - 1): if a has roots, the square of that is a or -a.
	root := a.ones(251).Square()
	if root.Square().lowest() != a.lowest() {
		root = root.Times(rootOfMinusOne())
	}
	if root.Square().lowest() != a.lowest() {
		return Number{}, false
	}
	return root, true
}

// rootOfMinusOne is the even number whose square is p - 1.
func rootOfMinusOne() Number {
	return Number{0x61b274a0ea0b0, 0x0d5a5fc8f189d, 0x7ef5e9cbd0c60, 0x78595a6804c9e, 0x2b8324804fc1d}
}

// ones is the number to the power of 2^n - 1, n being at least 1.
func (a Number) ones(n int) Number {
	if n == 1 {
		return a
	}
	half := a.ones(n / 2)
	all := half.squares(n / 2).Times(half)
	if n%2 == 1 {
		all = all.Square().Times(a)
	}
	return all
}

// squares is the number to the power of 2^n.
func (a Number) squares(n int) Number {
	for range n {
		a = a.Square()
	}
	return a
}
