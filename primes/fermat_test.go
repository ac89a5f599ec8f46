package primes_test

import (
	"math/big"
	"slices"
	"testing"

	"balefire/api"
	"balefire/primes"
)

// passesFermat: whether the power by N less one of what has nothing in common with N leaves 1, though N is not prime.
func passesFermat(n *big.Int) bool {
	for w := int64(2); w < 60; w++ {
		b := big.NewInt(w)
		if new(big.Int).GCD(nil, nil, b, n).BitLen() == 1 && new(big.Int).Exp(b, less(n), n).BitLen() > 1 {
			return false
		}
	}
	return !isPrime(n)
}

// neverHolds: by whichever of these parts, and whatever witness.
func neverHolds(t *testing.T, n *big.Int, parts []api.Reason) {
	t.Helper()
	for which := range 1 << len(parts) {
		var some []api.Reason
		for i, part := range parts {
			if which>>i&1 == 1 {
				some = append(some, part)
			}
		}
		for w := uint64(0); w < 24; w++ {
			if primes.Check(api.Reason{N: numOf(n), Witness: of(w), Parts: some}) {
				t.Errorf("of %d, by %d and %v", n, w, some)
			}
		}
	}
}

// P7.2, P7.3: small ones pass for primes neither by themselves nor by parts.
func TestCheckOfSmallOnesThatPassByFermat(t *testing.T) {
	for _, n := range []uint64{561, 1105, 1729, 2465, 2821, 6601, 8911, 41041, 294409, 825265, 56052361, 118901521} {
		if !passesFermat(new(big.Int).SetUint64(n)) {
			t.Fatal(n)
		}
		mustFail(t, api.Reason{N: of(n)}, notPrime)
		mustFail(t, api.Reason{N: of(n), Witness: of(2), Parts: smalls(divisorsOf(n - 1)...)}, notPrime, hasWitness, hasParts)
		neverHolds(t, new(big.Int).SetUint64(n), smalls(divisorsOf(n-1)...))
	}
}

// three: the product of 6k + 1, 12k + 1 and 18k + 1, if these are prime.
func three(k int64) (*big.Int, bool) {
	out, all := big.NewInt(1), true
	for _, times := range []int64{6, 12, 18} {
		p := big.NewInt(times*k + 1)
		all = all && isPrime(p)
		out.Mul(out, p)
	}
	return out, all
}

// P7.2, P7.3: just above 2^32, by all that divides them less one, and by whichever of that.
func TestCheckOfProductsOfThree(t *testing.T) {
	found := 0
	for k := int64(150); found < 8; k++ {
		n, all := three(k)
		if !all {
			continue
		}
		found++
		if n.BitLen() < 33 || !passesFermat(n) {
			t.Fatal(n)
		}
		parts := smalls(divisorsOf(n.Uint64() - 1)...)
		for w := uint64(2); w < 40; w++ {
			r := api.Reason{N: numOf(n), Witness: of(w), Parts: parts}
			if !slices.Contains(broken(r), inCommon) || primes.Check(r) {
				t.Errorf("of %d, by %d: %q", n, w, broken(r))
			}
		}
		neverHolds(t, n, parts)
	}
}

// P7.2, P7.3: far above it.
func TestCheckOfGreatProductsOfThree(t *testing.T) {
	for _, c := range []struct {
		k     int64
		parts []uint64
	}{
		{1025, []uint64{2, 3, 5, 41, 2364611}},
		{262180, []uint64{2, 3, 5, 13, 127, 1021, 13109, 489337}},
		{67109006, []uint64{2, 3, 71, 131, 6883, 33554503, 2532542261}},
	} {
		n, all := three(c.k)
		if !all || !passesFermat(n) {
			t.Fatal(c.k)
		}
		parts := smalls(c.parts...)
		r := breaking(t, n, parts, inCommon)
		mustFail(t, r, inCommon)
		neverHolds(t, n, parts)
	}
}

// P7.2: all that tells is what is in common: the powers by the parts leave no 1, but something in common with N, which is neither 1 nor N.
func TestCheckOfWhatOnlyACommonDivisorTells(t *testing.T) {
	for _, c := range []struct {
		n, witness uint64
		parts      []uint64
	}{
		{4461725581, 2, []uint64{2, 3, 13, 43, 971}},
		{167385219121, 10, []uint64{2, 5, 7, 17, 41}},
		{43286923681, 2, []uint64{3, 5, 7, 11, 13, 23}},
		{67643385391, 2, []uint64{2, 5, 7, 17, 601}},
		{103387371361, 3, []uint64{3, 5, 7, 13, 17, 53}},
		{892440837289, 15, []uint64{2, 3, 7, 11, 479}},
		{146873855701, 2, []uint64{2, 3, 5, 11, 13, 67}},
	} {
		n, w := new(big.Int).SetUint64(c.n), new(big.Int).SetUint64(c.witness)
		for _, p := range c.parts {
			if new(big.Int).Exp(w, big.NewInt(int64((c.n-1)/p)), n).BitLen() == 1 {
				t.Fatalf("%d, %d", c.n, p)
			}
		}
		mustFail(t, api.Reason{N: of(c.n), Witness: of(c.witness), Parts: smalls(c.parts...)}, inCommon)
		neverHolds(t, n, smalls(c.parts...))
	}
}

// P7.2: all that tells is that F is too small: a product of three by a prime that divides k.
func TestCheckOfWhatOnlyTheProductTells(t *testing.T) {
	for _, c := range []struct {
		k int64
		p uint64
	}{{1025, 41}, {262180, 13109}, {67109006, 33554503}} {
		n, _ := three(c.k)
		mustFail(t, breaking(t, n, smalls(c.p), tooShort), tooShort)
	}
}
