package duals_test

import (
	"math/rand"
	"slices"
	"testing"

	"balefire/api"
	"balefire/duals"
	"balefire/groups"
	"balefire/polys"
	"balefire/scalars"
)

// The groups of these tests may be, so far as the laws ask for it: both are prime, and G and H are of the group.
func TestGroupsMayBe(t *testing.T) {
	for _, g := range groupsThatMayBe() {
		if !bigOf(g.P).ProbablyPrime(30) || !bigOf(g.Q).ProbablyPrime(30) || !groups.In(g, g.G) || !groups.In(g, g.H) || g.G == of(1) || g.H == of(1) {
			t.Errorf("the test's own group %d", g)
		}
	}
}

// numbers: 1 to nodes, as exponents.
func numbers(g api.Group, nodes int) []api.Num {
	var l []api.Num
	for node := range int64(nodes) {
		l = append(l, scalars.Of(g, node+1))
	}
	return l
}

// valuesOf: a polynomial's, at 1 to nodes.
func valuesOf(t *testing.T, g api.Group, p []api.Num, nodes int) []api.Num {
	t.Helper()
	var l []api.Num
	for _, x := range numbers(g, nodes) {
		n, e := polys.At(g, p, x)
		if e != api.OK {
			t.Errorf("by %x, of %x at %x: %d", g.Q, p, x, e)
		}
		l = append(l, n)
	}
	return l
}

// raised: a number to the power of each.
func raised(t *testing.T, g api.Group, a api.Num, exponents []api.Num) []api.Num {
	t.Helper()
	var l []api.Num
	for _, n := range exponents {
		power, e := groups.Exp(g, a, n)
		if e != api.OK {
			t.Errorf("Exp(%x, %x, %x): %d", g.P, a, n, e)
		}
		l = append(l, power)
	}
	return l
}

// exactly: so many coefficients, of which the last is not 0.
func exactly(r *rand.Rand, q api.Num, many int) []api.Num {
	p := some(r, q, many)
	if many > 0 && p[many-1] == of(0) {
		p[many-1] = of(1)
	}
	return p
}

// P12.3: powers of the values of a polynomial of as many coefficients as are told, or of fewer, pass; of more they don't; of whichever number of the group.
func TestPolynomialsPass(t *testing.T) {
	r := rand.New(rand.NewSource(1))
	for _, g := range groupsThatMayBe() {
		for nodes := 1; nodes <= api.MaxNodes; nodes++ {
			for many := range nodes + 1 {
				values := valuesOf(t, g, exactly(r, g.Q, many), nodes)
				for _, base := range []api.Num{g.G, g.H} {
					v := raised(t, g, base, values)
					for coefficients := 1; coefficients <= nodes; coefficients++ {
						isCheck(t, g, v, coefficients, many <= coefficients, api.OK)
					}
				}
			}
		}
	}
}

// P12.3: powers of no such polynomial don't: of one coefficient more than are told, each other one of them being whatever it is, noughts too.
func TestOneMoreCoefficientDoesNotPass(t *testing.T) {
	r := rand.New(rand.NewSource(2))
	for _, g := range groupsThatMayBe() {
		for nodes := 2; nodes <= api.MaxNodes; nodes++ {
			for coefficients := 1; coefficients < nodes; coefficients++ {
				for _, last := range []api.Num{of(1), of(2), more(g.Q, -1)} {
					for _, p := range [][]api.Num{make([]api.Num, coefficients), some(r, g.Q, coefficients)} {
						v := raised(t, g, g.G, valuesOf(t, g, append(p, last), nodes))
						isCheck(t, g, v, coefficients, false, api.OK)
						isCheck(t, g, v, coefficients+1, true, api.OK)
					}
				}
			}
		}
	}
}

// P12.3: with one of the powers another one, in each place, they don't pass, but for as many coefficients as there are.
func TestAnotherPowerDoesNotPass(t *testing.T) {
	r := rand.New(rand.NewSource(3))
	for _, g := range groupsThatMayBe() {
		for nodes := 1; nodes <= api.MaxNodes; nodes++ {
			for coefficients := 1; coefficients <= nodes; coefficients++ {
				v := raised(t, g, g.G, valuesOf(t, g, some(r, g.Q, coefficients), nodes))
				isCheck(t, g, v, coefficients, true, api.OK)
				for i := range v {
					for _, by := range []api.Num{g.G, g.H} {
						other, _ := groups.Mul(g, v[i], by)
						isCheck(t, g, with(v, i, other), coefficients, coefficients == nodes, api.OK)
					}
				}
			}
		}
	}
}

// P12.3: with two of them, or all, another one, they pass just where the difference is of such a polynomial, too.
func TestOtherPowersPassWhereTheyMay(t *testing.T) {
	r := rand.New(rand.NewSource(4))
	for _, g := range groupsThatMayBe() {
		for nodes := 3; nodes <= api.MaxNodes; nodes++ {
			coefficients := 1 + r.Intn(nodes-2)
			one := raised(t, g, g.G, valuesOf(t, g, some(r, g.Q, coefficients), nodes))
			two := raised(t, g, g.H, valuesOf(t, g, some(r, g.Q, coefficients), nodes))
			three := raised(t, g, g.H, valuesOf(t, g, exactly(r, g.Q, coefficients+1), nodes))
			isCheck(t, g, products(g, one, two), coefficients, true, api.OK)
			isCheck(t, g, products(g, one, three), coefficients, false, api.OK)
			i, k := r.Intn(nodes), r.Intn(nodes)
			if two[i] != two[k] {
				two[i], two[k] = two[k], two[i]
				checkCheck(t, g, two, coefficients)
			}
		}
	}
}

// products: of both lists, item by item.
func products(g api.Group, a, b []api.Num) []api.Num {
	var l []api.Num
	for i := range a {
		n, _ := groups.Mul(g, a[i], b[i])
		l = append(l, n)
	}
	return l
}

// coefficientsThrough: how many coefficients the polynomial through values at 1, 2, .. has, without the noughts behind.
func coefficientsThrough(t *testing.T, g api.Group, values []api.Num) int {
	t.Helper()
	p, e := polys.Through(g, numbers(g, len(values)), values)
	if e != api.OK {
		t.Errorf("by %x, through %x: %d", g.Q, values, e)
	}
	many := len(p)
	for many > 0 && p[many-1] == of(0) {
		many--
	}
	return many
}

// passesJustWhere: the polynomial through the values, found by polys, is that short.
func passesJustWhere(t *testing.T, g api.Group, base api.Num, values []api.Num) {
	t.Helper()
	many, v := coefficientsThrough(t, g, values), raised(t, g, base, values)
	for coefficients := 1; coefficients <= len(v); coefficients++ {
		isCheck(t, g, v, coefficients, many <= coefficients, api.OK)
	}
}

// P12.3: what passes is what Through finds: all values of up to three nodes, and by a smaller order of four.
func TestAllThatPasses(t *testing.T) {
	for _, g := range []api.Group{example(), {P: of(11), Q: of(5), G: of(4), H: of(9)}} {
		q := int(bigOf(g.Q).Int64())
		for nodes := 1; nodes <= 4 && (nodes < 4 || q < 10); nodes++ {
			values := make([]api.Num, nodes)
			all := 1
			for range nodes {
				all *= q
			}
			for n := range all {
				for i := range values {
					values[i] = of(uint64(n % q))
					n /= q
				}
				passesJustWhere(t, g, g.G, values)
			}
		}
	}
}

// P12.3: so it is for as many nodes as there may be.
func TestWhatPassesIsWhatThroughFinds(t *testing.T) {
	r := rand.New(rand.NewSource(5))
	for _, g := range groupsThatMayBe() {
		for nodes := 1; nodes <= api.MaxNodes; nodes++ {
			passesJustWhere(t, g, g.G, some(r, g.Q, nodes))
			passesJustWhere(t, g, g.H, valuesOf(t, g, some(r, g.Q, r.Intn(nodes+1)), nodes))
			for _, a := range ends(g.Q) {
				passesJustWhere(t, g, g.G, slices.Repeat([]api.Num{a}, nodes))
				passesJustWhere(t, g, g.G, with(make([]api.Num, nodes), r.Intn(nodes), a))
			}
		}
	}
}

// P12.3: and by an order that is not prime, where each difference has an inverse.
func TestWhatPassesByAnOrderThatIsNotPrime(t *testing.T) {
	r := rand.New(rand.NewSource(6))
	for _, g := range []api.Group{{P: of(463), Q: of(77), G: power(of(3), 6, of(463))}, {P: of(727), Q: of(121), G: power(of(5), 6, of(727))}} {
		for divisor := int64(1); divisor < bigOf(g.Q).Int64(); divisor++ {
			if power(g.G, divisor, g.P) == of(1) {
				t.Fatalf("the test's own group %d", g)
			}
		}
		for nodes := 1; nodes <= api.MaxNodes; nodes++ {
			for range 20 {
				passesJustWhere(t, g, g.G, some(r, g.Q, nodes))
				passesJustWhere(t, g, g.G, valuesOf(t, g, some(r, g.Q, r.Intn(nodes+1)), nodes))
			}
		}
	}
}

// P12.3: values of a polynomial, each times what a word has there, are 0 together, while both have fewer coefficients together than there are nodes, and one more; otherwise they are the product of the last ones.
func TestWordsOfPolynomials(t *testing.T) {
	r := rand.New(rand.NewSource(7))
	for _, g := range groupsThatMayBe() {
		for nodes := 1; nodes <= api.MaxNodes; nodes++ {
			for many := 1; many < nodes; many++ {
				for other := 1; other <= nodes-many+1; other++ {
					p, q := exactly(r, g.Q, many), exactly(r, g.Q, other)
					want := of(0)
					if many+other == nodes+1 {
						want, _ = scalars.Mul(g, p[many-1], q[other-1])
					}
					if got := together(t, g, nodes, p, q); got != want {
						t.Errorf("by %x, of %d nodes, %x and %x: %x, not %x", g.Q, nodes, p, q, got, want)
					}
				}
			}
		}
	}
}

// together: the sum of a polynomial's values, each times what the other one's word has there.
func together(t *testing.T, g api.Group, nodes int, p, q []api.Num) api.Num {
	t.Helper()
	l, e := duals.Word(g, nodes, p)
	values := valuesOf(t, g, q, nodes)
	if e != api.OK || len(l) != nodes {
		t.Fatalf("Word(%x, %d, %x): %x, %d", g.Q, nodes, p, l, e)
	}
	var sum api.Num
	for i := range l {
		n, _ := scalars.Mul(g, l[i], values[i])
		sum, _ = scalars.Add(g, sum, n)
	}
	return sum
}
