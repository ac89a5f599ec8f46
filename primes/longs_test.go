package primes_test

import (
	"math"
	"math/big"
	"testing"

	"balefire/api"
)

const (
	most    = math.MaxUint64
	allBits = 256
	beyond  = 1 << 32 // small numbers are below it
)

func of(n uint64) api.Num { return api.Num{n} }

func bigOf(n api.Num) *big.Int {
	out := new(big.Int)
	for i := api.Words - 1; i >= 0; i-- {
		out.Lsh(out, 64).Or(out, new(big.Int).SetUint64(n[i]))
	}
	return out
}

// numOf: the lowest 256 bits.
func numOf(b *big.Int) api.Num {
	word := new(big.Int).SetUint64(most)
	var n api.Num
	for i := range n {
		part := new(big.Int).Rsh(b, uint(64*i))
		n[i] = part.And(part, word).Uint64()
	}
	return n
}

// digits: a number as it is written.
func digits(text string) *big.Int {
	n, ok := new(big.Int).SetString(text, 10)
	if !ok {
		panic(text)
	}
	return n
}

// near: 2 to the power of i, so many times, and so much more (or, below 0, less).
func near(i uint, times, more int64) *big.Int {
	n := new(big.Int).Lsh(big.NewInt(times), i)
	return n.Add(n, big.NewInt(more))
}

// less: one less.
func less(n *big.Int) *big.Int { return new(big.Int).Sub(n, big.NewInt(1)) }

// behindProduct: what stands one behind the product of some numbers.
func behindProduct(l ...*big.Int) *big.Int {
	out := big.NewInt(1)
	for _, n := range l {
		out.Mul(out, n)
	}
	return out.Add(out, big.NewInt(1))
}

func isPrime(n *big.Int) bool { return n.ProbablyPrime(20) }

// primesTo: the primes up to a number, by crossing out.
func primesTo(last uint64) []uint64 {
	crossed := make([]bool, last+1)
	var l []uint64
	for n := uint64(2); n <= last; n++ {
		if crossed[n] {
			continue
		}
		l = append(l, n)
		for k := n * n; k <= last; k += n {
			crossed[k] = true
		}
	}
	return l
}

// divisorsOf: the primes that divide a number, rising.
func divisorsOf(n uint64) []uint64 {
	var l []uint64
	for d := uint64(2); d*d <= n; d++ {
		if n%d == 0 {
			l = append(l, d)
		}
		for n%d == 0 {
			n /= d
		}
	}
	if n > 1 {
		l = append(l, n)
	}
	return l
}

// fits: the tests' own numbers must be of 256 bits.
func fits(t *testing.T, n *big.Int) {
	t.Helper()
	if n.BitLen() > allBits {
		t.Fatalf("%d has %d bits", n, n.BitLen())
	}
}
