package digest

import (
	"crypto/sha512"
	"encoding/hex"
	"math/big"
	"strings"
	"testing"
)

// sample makes n bytes that do not repeat at the size of a block.
func sample(n int) string {
	out := make([]byte, n)
	for i := range out {
		out[i] = byte(i*i + 7*i + i/251 + n)
	}
	return string(out)
}

func firstPrimes(n int) []int64 {
	var primes []int64
	for number := int64(2); len(primes) < n; number++ {
		if big.NewInt(number).ProbablyPrime(0) {
			primes = append(primes, number)
		}
	}
	return primes
}

// isRootPart tells whether bits are the first 64 behind the point of the root of that degree.
func isRootPart(bits uint64, of int64, degree int64) bool {
	for whole := int64(0); whole < of; whole++ {
		root := new(big.Int).Lsh(big.NewInt(whole), 64)
		root.Add(root, new(big.Int).SetUint64(bits))
		above := new(big.Int).Add(root, big.NewInt(1))
		scaled := new(big.Int).Lsh(big.NewInt(of), uint(64*degree))
		low := new(big.Int).Exp(root, big.NewInt(degree), nil)
		high := new(big.Int).Exp(above, big.NewInt(degree), nil)
		if low.Cmp(scaled) <= 0 && high.Cmp(scaled) > 0 {
			return true
		}
	}
	return false
}

func TestTablesAreRoots(t *testing.T) {
	primes := firstPrimes(rounds)
	for i, bits := range squareRoots() {
		if !isRootPart(bits, primes[i], 2) {
			t.Errorf("%x is not of the square root of %d", bits, primes[i])
		}
	}
	for i, bits := range cubeRoots {
		if !isRootPart(bits, primes[i], 3) {
			t.Errorf("%x is not of the cube root of %d", bits, primes[i])
		}
	}
}

func TestOfKnownAnswers(t *testing.T) {
	for data, want := range map[string]string{
		"":    "cf83e1357eefb8bdf1542850d66d8007d620e4050b5715dc83f4a921d36ce9ce47d0d13c5d85f2b0ff8318d2877eec2f63b931bd47417a81a538327af927da3e",
		"abc": "ddaf35a193617abacc417349ae20413112e6fa4e89a97ea20a9eeee64b55d39a2192992a274fc1a836ba3c23a3feebbd454d4423643ce80e2a9ac94fa54ca49f",
		"abcdefghbcdefghicdefghijdefghijkefghijklfghijklmghijklmnhijklmnoijklmnopjklmnopqklmnopqrlmnopqrsmnopqrstnopqrstu": "8e959b75dae313da8cf4f72814fc143f8f7779c6eb9f7fa17299aeadb6889018501d289e4900f7e4331b99dec4b5433ac7d329eeb6dd26545e96e55b874be909",
	} {
		if got := hex.EncodeToString([]byte(Of(data))); got != want {
			t.Errorf("of %q: %s, want %s", data, got, want)
		}
	}
}

func TestOfAllLengthsOfThreeBlocks(t *testing.T) {
	for n := range 3*blockSize + 2 {
		for _, data := range []string{sample(n), strings.Repeat("\xff", n), strings.Repeat("\x00", n)} {
			want := sha512.Sum512([]byte(data))
			if got := Of(data); got != string(want[:]) {
				t.Fatalf("of %d bytes: %x, want %x", n, got, want)
			}
		}
	}
}

func TestOfMoreThanOneCallTakes(t *testing.T) {
	data := sample(100003)
	want := sha512.Sum512([]byte(data))
	if got := Of(data); got != string(want[:]) {
		t.Errorf("%x, want %x", got, want)
	}
}
