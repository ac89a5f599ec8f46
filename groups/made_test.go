package groups_test

import (
	"math/big"
	"slices"
	"testing"

	"balefire/api"
	"balefire/groups"
	"balefire/primes"
)

// made: a group, and the reasons of its primes.
type made struct {
	g    api.Group
	p, q api.Reason
}

func (m made) holds() bool { return groups.Check(m.g, m.p, m.q) }

// smalls: reasons of numbers below 2^32.
func smalls(l ...uint64) []api.Reason {
	var out []api.Reason
	for _, n := range l {
		out = append(out, api.Reason{N: of(n)})
	}
	return out
}

// proved: a reason of n by these parts, with the first witness that does.
func proved(t *testing.T, n *big.Int, parts ...api.Reason) api.Reason {
	t.Helper()
	r := api.Reason{N: numOf(n), Parts: parts}
	for w := uint64(2); w < 5000; w++ {
		r.Witness = of(w)
		if primes.Check(r) {
			return r
		}
	}
	t.Fatalf("no witness of %d", n)
	return r
}

// chain: reasons of primes of 62, 120, 224 and 255 bits, each the only part of the next, and of a prime of 256 bits that is one behind twice the last one.
func chain(t *testing.T) []api.Reason {
	t.Helper()
	l := smalls(4294967291)
	for _, text := range []string{
		"2305843152558227287",
		"664613997892458418337259341989316801",
		"13479973333575319897333507543645666205735060284983433234141425598303",
		"28948138803258597613807299008635906668729595744687125648048476241964329583871",
		"57896277606517195227614598017271813337459191489374251296096952483928659167743",
	} {
		l = append(l, proved(t, digits(text), l[len(l)-1]))
	}
	return l[1:]
}

// generators: the first two unlike numbers of the group that are not 1; of order 2 there is but one.
func generators(p, q *big.Int) (g, h *big.Int) {
	times := new(big.Int).Div(less(p), q)
	for base := int64(2); base < 200; base++ {
		n := new(big.Int).Exp(big.NewInt(base), times, p)
		switch {
		case n.Cmp(big.NewInt(1)) <= 0:
		case g == nil:
			g, h = n, n
		case n.Cmp(g) != 0:
			return g, n
		}
	}
	return g, h
}

// grouped: the group of these primes.
func grouped(p, q api.Reason) made {
	g, h := generators(bigOf(p.N), bigOf(q.N))
	return made{api.Group{P: p.N, Q: q.N, G: numOf(g), H: numOf(h)}, p, q}
}

// above: a group of order q by the first prime of so many bits (or somewhat more) that is one behind a multiple of q, and of 2 to a power.
func above(t *testing.T, q api.Reason, bits, twos uint) made {
	t.Helper()
	step := new(big.Int).Lsh(bigOf(q.N), twos)
	p := new(big.Int).Div(near(bits-1, 1, 0), step)
	p.Add(p, big.NewInt(1)).Mul(p, step).Add(p, big.NewInt(1))
	for ; !p.ProbablyPrime(20); p.Add(p, step) {
	}
	return grouped(proved(t, p, append(smalls(2), q)...), q)
}

// great: groups of primes of more than 64 bits: of P alone, and of both; by short and by long exponents.
func great(t *testing.T) []made {
	t.Helper()
	c := chain(t)
	sixty := proved(t, near(61, 1, -1), smalls(2, 3, 5, 7, 11, 13, 31, 41, 61, 151, 331, 1321)...)
	even := proved(t, near(245, 1899, 1), smalls(2)...)
	return []made{
		grouped(c[4], c[3]), grouped(c[3], c[2]), grouped(c[2], c[1]), grouped(c[1], c[0]),
		above(t, sixty, 66, 1), above(t, sixty, 110, 3), above(t, sixty, 192, 50),
		above(t, c[1], 128, 2), above(t, c[1], 256, 20), above(t, c[0], 193, 60),
		grouped(even, smalls(211)[0]), grouped(even, smalls(3)[0]), grouped(even, smalls(2)[0]),
	}
}

// little: groups of small primes, of all orders.
func little() []made {
	var l []made
	for _, p := range []uint64{3, 5, 7, 11, 13, 23, 29, 31, 47, 257, 2311, 65537, 4294967291} {
		for q := uint64(2); q < p && q < 1000; q++ {
			if (p-1)%q == 0 && primes.Small(q) {
				l = append(l, grouped(smalls(p)[0], smalls(q)[0]))
			}
		}
	}
	return append(l, example())
}

func all(t *testing.T) []made {
	t.Helper()
	return append(little(), great(t)...)
}

// example: the chapter's.
func example() made {
	l := smalls(23, 11)
	return made{api.Group{P: of(23), Q: of(11), G: of(4), H: of(9)}, l[0], l[1]}
}

// What may be wrong with a group, one sentence of the chapter each.
const (
	badP      = "a reason of P that does not hold"
	badQ      = "a reason of Q that does not hold"
	otherP    = "a reason that is not for P"
	otherQ    = "a reason that is not for Q"
	noDivisor = "a Q that does not divide"
	mayNotG   = "a G that may not be multiplied"
	mayNotH   = "an H that may not be multiplied"
	outG      = "a G that is not of the group"
	outH      = "an H that is not of the group"
	oneG      = "a G that is 1"
	oneH      = "an H that is 1"
)

// broken: what is wrong, as the chapter's words have it and big numbers tell it.
func broken(m made) []string {
	var l []string
	must := func(holds bool, what string) {
		if !holds {
			l = append(l, what)
		}
	}
	p, q := bigOf(m.g.P), bigOf(m.g.Q)
	must(primes.Check(m.p), badP)
	must(primes.Check(m.q), badQ)
	must(m.p.N == m.g.P, otherP)
	must(m.q.N == m.g.Q, otherQ)
	must(q.Sign() > 0 && new(big.Int).Mod(less(p), q).Sign() == 0, noDivisor)
	must(may(m.g, m.g.G), mayNotG)
	must(may(m.g, m.g.H), mayNotH)
	must(!may(m.g, m.g.G) || isIn(m.g, m.g.G), outG)
	must(!may(m.g, m.g.H) || isIn(m.g, m.g.H), outH)
	must(m.g.G != of(1), oneG)
	must(m.g.H != of(1), oneH)
	slices.Sort(l)
	return l
}

// may: whether a number may be multiplied.
func may(g api.Group, a api.Num) bool {
	p, n := bigOf(g.P), bigOf(a)
	return p.Cmp(big.NewInt(1)) > 0 && n.Sign() > 0 && n.Cmp(p) < 0
}

// isIn: whether it is of the group.
func isIn(g api.Group, a api.Num) bool {
	return may(g, a) && isOne(new(big.Int).Exp(bigOf(a), bigOf(g.Q), bigOf(g.P)))
}

func mustHold(t *testing.T, m made) {
	t.Helper()
	if l := broken(m); len(l) > 0 {
		t.Fatalf("the test's own group %d: %q", m.g, l)
	}
	if !m.holds() {
		t.Errorf("group %d may not be", m.g)
	}
}

// mustFail: of just what is named.
func mustFail(t *testing.T, m made, what ...string) {
	t.Helper()
	slices.Sort(what)
	if l := broken(m); !slices.Equal(l, what) {
		t.Fatalf("the test's own group %d: %q, not %q", m.g, l, what)
	}
	if m.holds() {
		t.Errorf("group %d may be, with %q", m.g, what)
	}
}
