package primes_test

import (
	"math/big"
	"math/rand"
	"slices"
	"testing"

	"balefire/api"
	"balefire/primes"
)

// What a reason may break, one sentence of the chapter each.
const (
	tooMany    = "too many reasons"
	notPrime   = "not prime"
	hasWitness = "a small one with a witness"
	hasParts   = "a small one with parts"
	noRise     = "parts that do not rise"
	badPart    = "a part that does not hold"
	noDivisor  = "a part that does not divide"
	tooShort   = "a product that is too small"
	outside    = "a witness that may not be"
	noFermat   = "a power that does not leave 1"
	inCommon   = "a power that has something in common"
)

// broken: what a reason breaks, as the chapter's words have it and big numbers tell it.
func broken(r api.Reason) []string {
	l := brokenAlone(r)
	if count(r) > api.MaxWitness {
		l = append(l, tooMany)
	}
	if slices.ContainsFunc(r.Parts, func(part api.Reason) bool { return len(broken(part)) > 0 }) {
		l = append(l, badPart)
	}
	slices.Sort(l)
	return l
}

// count: the reasons in it, with itself.
func count(r api.Reason) int {
	all := 1
	for _, part := range r.Parts {
		all += count(part)
	}
	return all
}

// brokenAlone: what it breaks, where it is not asked whether its parts hold, and how many they are.
func brokenAlone(r api.Reason) []string {
	var l []string
	must := func(holds bool, what string) {
		if !holds {
			l = append(l, what)
		}
	}
	n, w, one := bigOf(r.N), bigOf(r.Witness), big.NewInt(1)
	if n.BitLen() <= 32 {
		must(n.ProbablyPrime(0), notPrime)
		must(w.Sign() == 0, hasWitness)
		must(len(r.Parts) == 0, hasParts)
	} else {
		must(rise(r.Parts), noRise)
		must(ofEach(r, func(p *big.Int) bool { return goesInto(p, less(n)) }), noDivisor)
		f := productOf(r)
		must(f.Mul(f, f).Cmp(n) > 0, tooShort)
		must(w.Cmp(one) > 0 && w.Cmp(n) < 0, outside)
		must(new(big.Int).Exp(w, less(n), n).Cmp(one) == 0, noFermat)
		must(ofEach(r, func(p *big.Int) bool { return nothingInCommon(w, p, n) }), inCommon)
	}
	slices.Sort(l)
	return l
}

// ofEach: whether that is so of each part's N.
func ofEach(r api.Reason, is func(p *big.Int) bool) bool {
	return !slices.ContainsFunc(r.Parts, func(part api.Reason) bool { return !is(bigOf(part.N)) })
}

func rise(parts []api.Reason) bool {
	for i := 1; i < len(parts); i++ {
		if bigOf(parts[i-1].N).Cmp(bigOf(parts[i].N)) >= 0 {
			return false
		}
	}
	return true
}

// goesInto: nothing is divided by 0.
func goesInto(p, n *big.Int) bool {
	return p.Sign() > 0 && new(big.Int).Mod(n, p).Sign() == 0
}

// productOf: F.
func productOf(r api.Reason) *big.Int {
	f := big.NewInt(1)
	rest := less(bigOf(r.N))
	for _, part := range r.Parts {
		for p := bigOf(part.N); p.BitLen() > 1 && goesInto(p, rest); rest.Div(rest, p) {
			f.Mul(f, p)
		}
	}
	return f
}

// nothingInCommon: the witness's power by p, less one, and n.
func nothingInCommon(w, p, n *big.Int) bool {
	if p.Sign() == 0 {
		return true
	}
	power := new(big.Int).Exp(w, new(big.Int).Div(less(n), p), n)
	return new(big.Int).GCD(nil, nil, power.Sub(power, big.NewInt(1)).Mod(power, n), n).Cmp(big.NewInt(1)) == 0
}

func mustHold(t *testing.T, r api.Reason) {
	t.Helper()
	if l := broken(r); len(l) > 0 {
		t.Fatalf("the test's own reason of %d, by %d: %q", bigOf(r.N), bigOf(r.Witness), l)
	}
	if !primes.Check(r) {
		t.Errorf("a reason of %d, by %d, does not hold: %v", bigOf(r.N), bigOf(r.Witness), r)
	}
}

// mustFail: of just what is named.
func mustFail(t *testing.T, r api.Reason, what ...string) {
	t.Helper()
	slices.Sort(what)
	if l := broken(r); !slices.Equal(l, what) {
		t.Fatalf("the test's own reason of %d, by %d: %q, not %q", bigOf(r.N), bigOf(r.Witness), l, what)
	}
	if primes.Check(r) {
		t.Errorf("a reason of %d, by %d, holds, with %q: %v", bigOf(r.N), bigOf(r.Witness), what, r)
	}
}

// smalls: reasons of numbers below 2^32.
func smalls(l ...uint64) []api.Reason {
	var out []api.Reason
	for _, n := range l {
		out = append(out, api.Reason{N: of(n)})
	}
	return out
}

// breaking: of n by these parts, with the first witness by which just that is broken, where it is not asked whether the parts hold.
func breaking(t *testing.T, n *big.Int, parts []api.Reason, what ...string) api.Reason {
	t.Helper()
	fits(t, n)
	slices.Sort(what)
	r := api.Reason{N: numOf(n), Parts: parts}
	for w := uint64(2); w < 5000; w++ {
		r.Witness = of(w)
		if slices.Equal(brokenAlone(r), what) {
			return r
		}
	}
	t.Fatalf("no witness of %d: %q", n, brokenAlone(r))
	return r
}

// proved: of n by these parts, with the first witness that does.
func proved(t *testing.T, n *big.Int, parts ...api.Reason) api.Reason {
	t.Helper()
	return breaking(t, n, parts)
}

// next: the first prime that is one behind some parts' product, so many times.
func next(parts ...api.Reason) *big.Int {
	l := []*big.Int{nil}
	for _, part := range parts {
		l = append(l, bigOf(part.N))
	}
	for k := int64(1); ; k++ {
		l[0] = big.NewInt(k)
		if n := behindProduct(l...); isPrime(n) {
			return n
		}
	}
}

// chain: so many reasons, each the only part of the next.
func chain(t *testing.T, many int) api.Reason {
	t.Helper()
	r := api.Reason{N: of(4294967291)}
	for range many - 1 {
		r = proved(t, next(r), r)
	}
	return r
}

// row: a reason by as many parts as there are primes from 2 on, all small.
func row(t *testing.T, many int) api.Reason {
	t.Helper()
	parts := smalls(primesTo(1000)[:many]...)
	return proved(t, next(parts...), parts...)
}

// grown: a reason of a prime of so many bits that nobody picked, by one or two of fewer bits, and sometimes by 2.
func grown(t *testing.T, some *rand.Rand, bits int) api.Reason {
	t.Helper()
	if bits <= 32 {
		for {
			n := 1<<(bits-1) | uint64(some.Int63n(1<<(bits-1)))
			if new(big.Int).SetUint64(n).ProbablyPrime(0) {
				return api.Reason{N: of(n)}
			}
		}
	}
	parts := []api.Reason{grown(t, some, bits/2+2)}
	if some.Intn(2) == 0 && bits > 64 {
		parts = []api.Reason{grown(t, some, bits/4+1), grown(t, some, bits/4+3)}
	}
	n := random(some, bits, parts)
	if some.Intn(2) == 0 {
		parts = append(smalls(2), parts...)
	}
	return proved(t, n, parts...)
}

// random: a prime of so many bits that is one behind an even multiple of the parts.
func random(some *rand.Rand, bits int, parts []api.Reason) *big.Int {
	f := big.NewInt(2)
	for _, part := range parts {
		f.Mul(f, bigOf(part.N))
	}
	low := near(uint(bits-1), 1, 0)
	for {
		n := new(big.Int).Rand(some, low)
		n.Add(n, low).Div(n, f).Mul(n, f).Add(n, big.NewInt(1))
		if n.BitLen() == bits && isPrime(n) {
			return n
		}
	}
}
