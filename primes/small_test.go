package primes_test

import (
	"math/big"
	"math/rand"
	"testing"

	"balefire/primes"
)

func checkSmall(t *testing.T, n uint64, want bool) {
	t.Helper()
	if got := primes.Small(n); got != want {
		t.Errorf("Small(%d): %t", n, got)
	}
}

// P7.1: the chapter's Examples, and others that are known.
func TestSmall(t *testing.T) {
	for _, c := range []struct {
		n    uint64
		want bool
	}{
		{2, true}, {1, false}, {4294967291, true}, {4294967296, false},
		{0, false}, {3, true}, {4, false}, {5, true}, {6, false}, {7, true}, {8, false}, {9, false}, {25, false}, {35, false}, {49, false},
		{65521, true}, {65535, false}, {65536, false}, {65537, true}, {65539, true},
		{2147483647, true}, {2147483648, false}, {2147483649, false},
		{4294967279, true}, {4294967231, true}, {4294967290, false}, {4294967292, false}, {4294967293, false}, {4294967294, false}, {4294967295, false},
		// They pass for primes by Fermat, or by the witnesses 2, 3, 5 and 7.
		{341, false}, {561, false}, {1105, false}, {1729, false}, {2047, false}, {2465, false}, {6601, false}, {8911, false}, {294409, false},
		{1373653, false}, {25326001, false}, {3215031751, false}, {4294901761, false}, {4294967297, false},
	} {
		checkSmall(t, c.n, c.want)
	}
}

// checkFrom: all of so many numbers, by crossing out what a prime divides.
func checkFrom(t *testing.T, from, many uint64) {
	t.Helper()
	composite := make([]bool, many)
	for _, p := range primesTo(1 << 16) {
		for k := max(p*p, (from+p-1)/p*p); k < from+many; k += p {
			composite[k-from] = true
		}
	}
	for i := range many {
		checkSmall(t, from+i, from+i > 1 && !composite[i])
	}
}

// P7.1
func TestSmallOfAllFromNoughtOn(t *testing.T) { checkFrom(t, 0, 20000) }

// P7.1
func TestSmallAroundTwoToSixteen(t *testing.T) { checkFrom(t, 1<<16-2000, 4000) }

// P7.1
func TestSmallElsewhere(t *testing.T) {
	checkFrom(t, 1<<24-500, 1000)
	checkFrom(t, 1<<31-500, 1000)
	checkFrom(t, 3*5*7*11*13*17*19*23-500, 1000)
}

// P7.1: the greatest ones that are small, up to 2^32 less one.
func TestSmallJustBelowTheEnd(t *testing.T) { checkFrom(t, beyond-2000, 2000) }

// P7.1: each prime whose square is small, by itself, by the next one, and by the greatest one by which it is small.
func TestSmallOfProductsOfTwo(t *testing.T) {
	l := primesTo(1<<16 + 1)
	for i, p := range l {
		checkSmall(t, p, true)
		checkSmall(t, p*p, false)
		if i+1 < len(l) {
			checkSmall(t, p*l[i+1], false)
		}
		q := (beyond - 1) / p
		for !new(big.Int).SetUint64(q).ProbablyPrime(0) {
			q--
		}
		checkSmall(t, q*p, false)
	}
	checkSmall(t, 65521*65521, false)
	checkSmall(t, 65521*65537, false)
}

// P7.1: 2^32, and above it, none, whether it is prime or not: neither what has a small prime in its lowest bits, nor what is far above.
func TestSmallOfWhatIsNotBelow(t *testing.T) {
	for i := range uint64(2000) {
		checkSmall(t, beyond+i, false)
		checkSmall(t, most-i, false)
		checkSmall(t, beyond*(i+1)+2, false)
	}
	for _, n := range []uint64{4294967311, 4294967357, 1<<61 - 1, most - 58, beyond*beyond/2 + 29, beyond + 2, beyond + 3, beyond + 7, 65537 * 65537, most} {
		checkSmall(t, n, false)
	}
	for i := range 64 - 32 {
		for _, p := range []uint64{2, 3, 5, 7, 65537, 4294967291} {
			checkSmall(t, 1<<(32+i)|p, false)
		}
	}
}

// P7.1: what nobody picked.
func TestSmallOfMany(t *testing.T) {
	some := rand.New(rand.NewSource(7))
	for range 5000 {
		n := some.Uint64() >> (32 + some.Intn(12))
		checkSmall(t, n, new(big.Int).SetUint64(n).ProbablyPrime(0))
	}
}
