package groups_test

import (
	"math/big"
	"math/rand"
	"testing"

	"balefire/api"
	"balefire/groups"
	"balefire/primes"
)

// P8.1: the chapter's Examples.
func TestCheck(t *testing.T) {
	mustHold(t, example())
	m := example()
	m.p, m.q = m.q, m.p
	mustFail(t, m, otherP, otherQ)
}

// P8.1: groups of small primes and of great ones; G and H may be the same one, and change their places.
func TestCheckOfGroupsThatMayBe(t *testing.T) {
	for _, m := range all(t) {
		mustHold(t, m)
		m.g.G, m.g.H = m.g.H, m.g.G
		mustHold(t, m)
		m.g.H = m.g.G
		mustHold(t, m)
		m.g.H = numOf(new(big.Int).Exp(bigOf(m.g.G), less(bigOf(m.g.Q)), bigOf(m.g.P)))
		mustHold(t, m)
	}
}

// P8.1: of all small numbers, prime or not.
func TestCheckOfAllSmallOnes(t *testing.T) {
	divides := func(q, p uint64) bool { return q > 0 && p > 0 && (p-1)%q == 0 }
	may := 0
	for p := range uint64(24) {
		for q := range uint64(14) {
			makes := func(a uint64) bool { return a > 1 && a < p && powerOf(a, q, p) == 1 }
			r := smalls(p, q)
			for g := range p + 2 {
				for h := range p + 2 {
					want := primes.Small(p) && primes.Small(q) && divides(q, p) && makes(g) && makes(h)
					if got := groups.Check(api.Group{P: of(p), Q: of(q), G: of(g), H: of(h)}, r[0], r[1]); got != want {
						t.Errorf("of %d, %d, %d, %d: %t", p, q, g, h, got)
					}
					if want {
						may++
					}
				}
			}
		}
	}
	if may < 100 {
		t.Errorf("only %d may be", may)
	}
}

// P8.1: P or Q is prime, but its reason does not say so.
func TestCheckByReasonsThatDontHold(t *testing.T) {
	for _, m := range all(t) {
		for i, r := range []*api.Reason{&m.p, &m.q} {
			was, what := *r, []string{badP, badQ}[i]
			for _, w := range []api.Num{of(1), was.N, more(was.N, 1), highest()} {
				r.Witness = w
				mustFail(t, m, what)
			}
			*r = was
			r.Parts = append(smalls(9), was.Parts...)
			mustFail(t, m, what)
			*r = api.Reason{N: was.N, Parts: smalls(2, 2)}
			mustFail(t, m, what)
			if len(was.Parts) > 0 {
				*r = api.Reason{N: was.N, Witness: was.Witness}
				mustFail(t, m, what)
			}
			*r = was
		}
		mustHold(t, m)
	}
}

// P8.1: P is not prime, though all else holds.
func TestCheckOfPThatIsNotPrime(t *testing.T) {
	for _, c := range [][4]uint64{{15, 2, 4, 14}, {15, 2, 11, 4}, {21, 2, 8, 13}, {91, 3, 9, 16}, {561, 2, 67, 560}, {561, 5, 103, 511}, {25, 2, 24, 24}} {
		r := smalls(c[0], c[1])
		mustFail(t, made{api.Group{P: of(c[0]), Q: of(c[1]), G: of(c[2]), H: of(c[3])}, r[0], r[1]}, badP)
	}
	// A product of two primes that leave 1 by Q leaves 1 by it, too.
	q := chain(t)[0]
	one, two := above(t, q, 100, 1), above(t, q, 110, 2)
	p := new(big.Int).Mul(bigOf(one.g.P), bigOf(two.g.P))
	times := new(big.Int).Mul(less(bigOf(one.g.P)), less(bigOf(two.g.P)))
	times.Div(times, bigOf(q.N)).Div(times, bigOf(q.N))
	m := made{api.Group{P: numOf(p), Q: q.N}, api.Reason{N: numOf(p), Witness: of(2), Parts: []api.Reason{q}}, q}
	m.g.G = numOf(new(big.Int).Exp(big.NewInt(2), times, p))
	m.g.H = numOf(new(big.Int).Exp(big.NewInt(3), times, p))
	mustFail(t, m, badP)
}

// P8.1: Q is not prime, though all else holds.
func TestCheckOfQThatIsNotPrime(t *testing.T) {
	for _, c := range [][4]uint64{{23, 22, 5, 7}, {23, 22, 4, 9}, {13, 4, 5, 8}, {13, 6, 4, 12}, {13, 12, 2, 11}, {5, 4, 2, 3}, {65537, 65536, 3, 5}} {
		r := smalls(c[0], c[1])
		mustFail(t, made{api.Group{P: of(c[0]), Q: of(c[1]), G: of(c[2]), H: of(c[3])}, r[0], r[1]}, badQ)
	}
	for _, m := range great(t) {
		for _, times := range []int64{2, 3, 5, 1899} {
			q := new(big.Int).Mul(bigOf(m.g.Q), big.NewInt(times))
			if q.Cmp(bigOf(m.g.P)) >= 0 || new(big.Int).Mod(less(bigOf(m.g.P)), q).Sign() != 0 {
				continue
			}
			n := m
			n.g.Q, n.q.N = numOf(q), numOf(q)
			mustFail(t, n, badQ)
		}
		m.g.Q, m.q = more(m.g.P, -1), api.Reason{N: more(m.g.P, -1)}
		mustFail(t, m, badQ)
	}
}

// P8.1: by 0 nothing is divided, though each power by it is 1; by 1 all is, and nothing but 1 is of the group.
func TestCheckOfQNoughtAndOne(t *testing.T) {
	for _, m := range all(t) {
		m.g.Q, m.q = of(0), api.Reason{}
		mustFail(t, m, badQ, noDivisor)
		m.g.Q, m.q = of(1), smalls(1)[0]
		mustFail(t, m, badQ, outG, outH)
		m.g.G, m.g.H = of(1), of(1)
		mustFail(t, m, badQ, oneG, oneH)
	}
}

// P8.1: no prime is below 2, and below 3 there is no other number.
func TestCheckOfTheLowestP(t *testing.T) {
	for _, q := range smalls(0, 1, 2, 3) {
		for _, a := range []api.Num{of(0), of(1), of(2), highest()} {
			for p := range uint64(3) {
				m := made{api.Group{P: of(p), Q: q.N, G: a, H: a}, smalls(p)[0], q}
				if l := broken(m); len(l) == 0 || m.holds() {
					t.Errorf("of %d, %d and %d: %q", p, bigOf(q.N), bigOf(a), l)
				}
			}
		}
	}
}

// P8.1: a reason that holds, but for another prime; all else is as it was.
func TestCheckByReasonsOfOthers(t *testing.T) {
	l := append(smalls(2, 3, 7, 29, 4294967291), chain(t)...)
	for _, m := range all(t) {
		for _, r := range append(l, m.q) {
			if n := (made{m.g, r, m.q}); r.N != m.g.P {
				mustFail(t, n, otherP)
			}
		}
		for _, r := range append(l, m.p) {
			if n := (made{m.g, m.p, r}); r.N != m.g.Q {
				mustFail(t, n, otherQ)
			}
		}
		mustFail(t, made{m.g, m.q, m.p}, otherP, otherQ)
	}
}

// P8.1: reasons are held against P and Q by all of their words.
func TestCheckByReasonsOfNumbersThatAreAlikeInPart(t *testing.T) {
	m := example()
	for i := 1; i < api.Words; i++ {
		n := m
		n.g.P[i] = 1
		if len(broken(n)) == 0 || n.holds() {
			t.Errorf("P %x", n.g.P)
		}
		n = m
		n.g.Q[i] = 1
		if len(broken(n)) == 0 || n.holds() {
			t.Errorf("Q %x", n.g.Q)
		}
	}
}

// P8.1: a prime Q that does not divide P less one breaks more than that: by a prime P, but 1, no number's power by it leaves 1.
func TestCheckOfQThatDoesNotDivide(t *testing.T) {
	for _, m := range all(t) {
		for _, q := range append(smalls(17, 4294967279), m.p) {
			m.g.Q, m.q = q.N, q
			if new(big.Int).Mod(less(bigOf(m.g.P)), bigOf(q.N)).Sign() == 0 {
				continue
			}
			n := m
			mustFail(t, n, noDivisor, outG, outH)
			n.g.G, n.g.H = of(1), of(1)
			mustFail(t, n, noDivisor, oneG, oneH)
		}
	}
	// Where P or Q is not prime there are some.
	r := smalls(21, 3, 23, 44)
	mustFail(t, made{api.Group{P: of(21), Q: of(3), G: of(4), H: of(16)}, r[0], r[1]}, badP, noDivisor)
	mustFail(t, made{api.Group{P: of(23), Q: of(44), G: of(4), H: of(5)}, r[2], r[3]}, badQ, noDivisor)
}

// withEach: the group with that in the place of G, then in that of H, then in both.
func withEach(m made, a api.Num, try func(m made, g, h bool)) {
	both := m
	both.g.G = a
	try(both, true, false)
	both.g.H = a
	try(both, true, true)
	m.g.H = a
	try(m, false, true)
}

// named: what is wrong with G, and with H.
func named(g, h bool, ofG, ofH string) []string {
	var l []string
	if g {
		l = append(l, ofG)
	}
	if h {
		l = append(l, ofH)
	}
	return l
}

// P8.1: G, H, both are 0, P, or above P, though going round they would be of the group; and 1.
func TestCheckOfWhatMayNotBeMultiplied(t *testing.T) {
	for _, m := range all(t) {
		l := []api.Num{of(0), m.g.P, highest(), more(m.g.P, 2)}
		if round := new(big.Int).Add(bigOf(m.g.P), bigOf(m.g.G)); round.BitLen() <= allBits {
			l = append(l, numOf(round))
		}
		for _, a := range append(l, more(m.g.P, 1)) {
			withEach(m, a, func(n made, g, h bool) { mustFail(t, n, named(g, h, mayNotG, mayNotH)...) })
		}
		withEach(m, of(1), func(n made, g, h bool) { mustFail(t, n, named(g, h, oneG, oneH)...) })
	}
}

// P8.1: G, H, both may be multiplied, but are not of the group.
func TestCheckOfWhatIsNotOfTheGroup(t *testing.T) {
	outside := 0
	for i, m := range all(t) {
		l := append([]api.Num{of(2), of(3), of(5), of(6), more(m.g.P, -1), more(m.g.P, -2)}, random(int64(i), m.g.P, 5)...)
		for _, a := range l {
			if !may(m.g, a) || isIn(m.g, a) {
				continue
			}
			outside++
			withEach(m, a, func(n made, g, h bool) { mustFail(t, n, named(g, h, outG, outH)...) })
		}
	}
	if outside < 100 {
		t.Errorf("only %d are not of their group", outside)
	}
}

// changed: a group, changed somewhere.
func changed(some *rand.Rand, m made, other made) made {
	fields := []*api.Num{&m.g.P, &m.g.Q, &m.g.G, &m.g.H, &m.p.N, &m.q.N, &m.p.Witness, &m.q.Witness}
	a, b := fields[some.Intn(len(fields))], fields[some.Intn(len(fields))]
	switch some.Intn(7) {
	case 0:
		a[some.Intn(api.Words)] ^= 1 << some.Intn(64)
	case 1:
		*a, *b = *b, *a
	case 2:
		*a = *b
	case 3:
		*a = of(some.Uint64() >> some.Intn(64))
	case 4:
		m.p, m.q = m.q, m.p
	case 5:
		m.g.G = numOf(new(big.Int).Exp(bigOf(m.g.H), bigOf(other.g.G), bigOf(m.g.P)))
	case 6:
		m.q = other.q
	}
	return m
}

// P8.1: what may be, changed, is as the chapter's words have it.
func TestCheckOfChangedOnes(t *testing.T) {
	some := rand.New(rand.NewSource(8))
	l := all(t)
	holds := 0
	for _, m := range l {
		for range 60 {
			n := changed(some, m, l[some.Intn(len(l))])
			want := len(broken(n)) == 0
			if got := n.holds(); got != want {
				t.Errorf("%d: %t, %q", n.g, got, broken(n))
			}
			if want {
				holds++
			}
		}
	}
	if holds < 100 {
		t.Errorf("only %d may be", holds)
	}
}

// P8.1, R1: reasons that lie within themselves end, too.
func TestCheckByReasonsWithinThemselves(t *testing.T) {
	for _, m := range great(t)[:2] {
		parts := make([]api.Reason, 2)
		r := api.Reason{N: m.g.P, Witness: of(2), Parts: parts}
		parts[0], parts[1] = r, r
		if groups.Check(m.g, r, m.q) {
			t.Error("of P")
		}
		r.N = m.g.Q
		parts[0], parts[1] = r, r
		if groups.Check(m.g, m.p, r) {
			t.Error("of Q")
		}
	}
}
