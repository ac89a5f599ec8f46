package shares_test

import (
	"math/rand"
	"slices"
	"testing"

	"balefire/api"
	"balefire/groups"
	"balefire/scalars"
	"balefire/shares"
)

// The groups of these tests may be, so far as the laws ask for it: both are prime, and G and H are of the group.
func TestGroupsMayBe(t *testing.T) {
	for _, g := range groupsThatMayBe() {
		if !bigOf(g.P).ProbablyPrime(30) || !bigOf(g.Q).ProbablyPrime(30) || !groups.In(g, g.G) || !groups.In(g, g.H) || g.G == of(1) || g.H == of(1) {
			t.Errorf("the test's own group %d", g)
		}
	}
}

// raisedAll: a number to the power of each.
func raisedAll(t *testing.T, g api.Group, a api.Num, exponents []api.Num) []api.Num {
	t.Helper()
	var l []api.Num
	for _, n := range exponents {
		power, e := groups.Exp(g, a, n)
		if e != api.OK {
			t.Errorf("Exp(%x, %x, %x): %d", g.P, a, n, e)
		}
		l = append(l, power)
	}
	return l
}

// shared: what a polynomial tells to all nodes, and what it hides.
func shared(t *testing.T, g api.Group, p []api.Num) (all, hidden []api.Num) {
	t.Helper()
	all, e := shares.Of(g, p, api.MaxNodes)
	hidden, wrong := shares.Secrets(g, p, api.MaxSecrets)
	if e != api.OK || wrong != api.OK || len(all) != api.MaxNodes || len(hidden) != api.MaxSecrets {
		t.Fatalf("by %x, of %x: %x, %d and %x, %d", g.Q, p, all, e, hidden, wrong)
	}
	return all, hidden
}

// subsets: all of so many places out of those of the nodes, in order.
func subsets(many int) [][]int {
	var out [][]int
	for bits := range 1 << api.MaxNodes {
		var l []int
		for place := range api.MaxNodes {
			if bits>>place&1 == 1 {
				l = append(l, place)
			}
		}
		if len(l) == many {
			out = append(out, l)
		}
	}
	return out
}

func pick(l []api.Num, at []int) []api.Num {
	var out []api.Num
	for _, place := range at {
		out = append(out, l[place])
	}
	return out
}

// P11.3: powers of as many shares as there are coefficients, whichever they are, in any order, raise the same power of the secrets.
func TestSharesRaiseSecrets(t *testing.T) {
	r := rand.New(rand.NewSource(1))
	for _, g := range groupsThatMayBe() {
		for coefficients := 1; coefficients <= api.MaxNodes; coefficients++ {
			all, hidden := shared(t, g, some(r, g.Q, coefficients))
			for _, base := range []api.Num{g.G, g.H} {
				powers, want := raisedAll(t, g, base, all), raisedAll(t, g, base, hidden)
				for _, at := range subsets(coefficients) {
					r.Shuffle(len(at), func(i, k int) { at[i], at[k] = at[k], at[i] })
					many := 1 + r.Intn(api.MaxSecrets)
					isRaise(t, g, at, pick(powers, at), many, want[:many], api.OK)
				}
			}
		}
	}
}

// P11.3: so do those of more shares than coefficients, as a polynomial of more coefficients may have noughts.
func TestMoreSharesRaiseSecretsToo(t *testing.T) {
	r := rand.New(rand.NewSource(2))
	for _, g := range groupsThatMayBe() {
		for coefficients := range api.MaxNodes {
			all, hidden := shared(t, g, some(r, g.Q, coefficients))
			powers, want := raisedAll(t, g, g.G, all), raisedAll(t, g, g.G, hidden)
			for many := coefficients + 1; many <= api.MaxNodes; many++ {
				at := places(r, many)
				isRaise(t, g, at, pick(powers, at), api.MaxSecrets, want, api.OK)
			}
		}
	}
}

// P11.3: those of fewer shares do not: the same ones may be of another polynomial, whose secret is another one.
func TestFewerSharesRaiseOthers(t *testing.T) {
	g := safe(of(1013))
	all, hidden := shared(t, g, list(5, 7, 11))
	for _, at := range subsets(2) {
		l, e := shares.Raise(g, at, pick(raisedAll(t, g, g.G, all), at), 1)
		if e != api.OK || slices.Equal(l, raisedAll(t, g, g.G, hidden[:1])) {
			t.Errorf("Raise at %d: %x, %d", at, l, e)
		}
	}
}

// P11.3: a power of one share that is not as it should be changes what is raised, at whichever place it is.
func TestOtherPowersRaiseOthers(t *testing.T) {
	r := rand.New(rand.NewSource(3))
	for _, g := range groupsThatMayBe() {
		all, hidden := shared(t, g, some(r, g.Q, 4))
		powers, want := raisedAll(t, g, g.G, all), raisedAll(t, g, g.G, hidden)
		at := places(r, 4)
		for i := range at {
			other, _ := groups.Mul(g, powers[at[i]], g.G)
			l, e := shares.Raise(g, at, with(pick(powers, at), i, other), api.MaxSecrets)
			if e != api.OK || l[0] == want[0] || l[1] == want[1] || l[2] == want[2] {
				t.Errorf("Raise by %x at %d: %x, %d", g.Q, at, l, e)
			}
		}
	}
}

// sums: of both lists, item by item; where one is shorter, 0 follows.
func sums(t *testing.T, g api.Group, a, b []api.Num) []api.Num {
	t.Helper()
	l := make([]api.Num, max(len(a), len(b)))
	copy(l, a)
	for i := range b {
		sum, e := scalars.Add(g, l[i], b[i])
		if e != api.OK {
			t.Errorf("by %x, %x and %x: %d", g.Q, l[i], b[i], e)
		}
		l[i] = sum
	}
	return l
}

// P11.3: shares, and secrets, of a sum are the sums of the shares, and of the secrets, by whatever Q.
func TestSharesOfASum(t *testing.T) {
	r := rand.New(rand.NewSource(4))
	groups := groupsThatMayBe()
	for _, q := range orders() {
		groups = append(groups, by(q))
	}
	for _, g := range groups {
		for range 10 {
			a, b := some(r, g.Q, r.Intn(6)), some(r, g.Q, r.Intn(6))
			sharesA, secretsA := shared(t, g, a)
			sharesB, secretsB := shared(t, g, b)
			both := sums(t, g, a, b)
			isOf(t, g, both, api.MaxNodes, sums(t, g, sharesA, sharesB), api.OK)
			isSecrets(t, g, both, api.MaxSecrets, sums(t, g, secretsA, secretsB), api.OK)
		}
	}
}

// P11.3: powers of a sum's shares are the products of the powers, and so is what they raise.
func TestRaisedSums(t *testing.T) {
	r := rand.New(rand.NewSource(5))
	for _, g := range groupsThatMayBe() {
		a, b := some(r, g.Q, 3), some(r, g.Q, 5)
		sharesA, secretsA := shared(t, g, a)
		sharesB, secretsB := shared(t, g, b)
		at := places(r, 5)
		var products []api.Num
		for _, place := range at {
			product, _ := groups.Mul(g, powerOfG(g, sharesA[place]), powerOfG(g, sharesB[place]))
			products = append(products, product)
		}
		want := raisedAll(t, g, g.G, sums(t, g, secretsA, secretsB))
		isRaise(t, g, at, products, api.MaxSecrets, want, api.OK)
	}
}

func powerOfG(g api.Group, n api.Num) api.Num {
	a, _ := groups.Exp(g, g.G, n)
	return a
}
