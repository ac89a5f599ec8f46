package groups_test

import (
	"math/big"
	"math/rand"
	"reflect"
	"slices"
	"testing"

	"balefire/api"
	"balefire/groups"
)

// within: what is done in one group with numbers of it, where nothing fails.
type within struct {
	t *testing.T
	g api.Group
}

// sure: of the group, as big numbers and In tell it.
func (w within) sure(n api.Num, e api.Errno) api.Num {
	w.t.Helper()
	if e != api.OK || !groups.In(w.g, n) || !isIn(w.g, n) {
		w.t.Errorf("by %d, %d: %d, %d", bigOf(w.g.P), bigOf(w.g.Q), bigOf(n), e)
	}
	return n
}

func (w within) mul(a, b api.Num) api.Num   { return w.sure(groups.Mul(w.g, a, b)) }
func (w within) inv(a api.Num) api.Num      { return w.sure(groups.Inv(w.g, a)) }
func (w within) exp(a, n api.Num) api.Num   { return w.sure(groups.Exp(w.g, a, n)) }
func (w within) all(a, n []api.Num) api.Num { return w.sure(groups.Product(w.g, a, n)) }

func (w within) same(what string, one, two api.Num) {
	w.t.Helper()
	if one != two {
		w.t.Errorf("%s, by %d, %d: %d and %d", what, bigOf(w.g.P), bigOf(w.g.Q), bigOf(one), bigOf(two))
	}
}

// roundBy: what is left by Q.
func roundBy(q api.Num, n *big.Int) api.Num { return numOf(n.Mod(n, bigOf(q))) }

// sum, times: of whole numbers.
func sum(a, b api.Num) *big.Int   { return new(big.Int).Add(bigOf(a), bigOf(b)) }
func times(a, b api.Num) *big.Int { return new(big.Int).Mul(bigOf(a), bigOf(b)) }

// members: numbers of the group, among them 1 and both generators.
func members(m made, seed int64) []api.Num {
	l := []api.Num{of(1), m.g.G, m.g.H}
	for _, n := range random(seed, m.g.Q, 4) {
		l = append(l, numOf(new(big.Int).Exp(bigOf(m.g.G), bigOf(n), bigOf(m.g.P))))
	}
	return l
}

// P8.5: what products, inverses and powers of numbers of the group are, is of it.
func TestWhatFollowsInGroupsThatMayBe(t *testing.T) {
	for i, m := range all(t) {
		w := within{t, m.g}
		l := members(m, int64(i))
		for _, a := range l {
			w.same("an inverse's inverse", w.inv(w.inv(a)), a)
			w.same("times its inverse", w.mul(a, w.inv(a)), of(1))
			w.same("an inverse as a power", w.inv(a), w.exp(a, more(m.g.Q, -1)))
			w.same("the 0-th power", w.exp(a, of(0)), of(1))
			w.same("the first power", w.exp(a, of(1)), a)
			for _, b := range l {
				w.same("products", w.mul(a, b), w.mul(b, a))
				w.same("an inverse of a product", w.inv(w.mul(a, b)), w.mul(w.inv(a), w.inv(b)))
				w.same("of two", w.all([]api.Num{a, b}, list(1, 1)), w.mul(a, b))
				w.same("put together either way", w.mul(w.mul(a, b), m.g.H), w.mul(a, w.mul(b, m.g.H)))
			}
		}
	}
}

// P8.5: exponents go round by Q, also those of 256 bits; sums of exponents are products, products are powers of powers.
func TestExponentsGoRound(t *testing.T) {
	for i, m := range all(t) {
		w := within{t, m.g}
		q := m.g.Q
		l := append(random(int64(i), highest(), 3), of(0), of(1), q, more(q, -1), more(q, 1), highest())
		for _, a := range members(m, int64(i)) {
			for at, n := range l {
				w.same("gone round", w.exp(a, n), w.exp(a, roundBy(q, bigOf(n))))
				if round := sum(n, q); round.BitLen() <= allBits {
					w.same("Q more", w.exp(a, n), w.exp(a, numOf(round)))
				}
				k := l[(at+1)%len(l)]
				w.same("a sum", w.exp(a, roundBy(q, sum(n, k))), w.mul(w.exp(a, n), w.exp(a, k)))
				w.same("a product", w.exp(a, roundBy(q, times(n, k))), w.exp(w.exp(a, n), k))
				w.same("together", w.all([]api.Num{a, m.g.H, a}, []api.Num{n, k, k}), w.mul(w.exp(a, roundBy(q, sum(n, k))), w.exp(m.g.H, k)))
			}
		}
	}
}

// P8.5: that does not lean on primes: by any P and any Q that is not 0, all numbers of the group.
func TestWhatFollowsByAnyNumbers(t *testing.T) {
	for p := range uint64(41) {
		for q := uint64(1); q < 13; q++ {
			w := within{t, api.Group{P: of(p), Q: of(q)}}
			var l []api.Num
			for a := range p {
				if groups.In(w.g, of(a)) {
					l = append(l, of(a))
				}
			}
			for _, a := range l {
				w.same("times its inverse", w.mul(a, w.inv(a)), of(1))
				for _, b := range l {
					w.same("products", w.mul(a, b), w.mul(b, a))
				}
				for n := range 2 * q {
					w.same("gone round", w.exp(a, of(n)), w.exp(a, of(n%q)))
					w.all([]api.Num{a, l[len(l)-1]}, list(n, n+1))
				}
			}
		}
	}
}

// P8.5: a generator's powers are Q numbers, no two alike; the rest of what may be multiplied is outside.
func TestHowManyAreOfTheGroup(t *testing.T) {
	for _, m := range little() {
		p, q := m.g.P[0], m.g.Q[0]
		if p > 3000 {
			continue
		}
		powers, in := map[api.Num]int{}, uint64(0)
		for n := range q {
			powers[within{t, m.g}.exp(m.g.G, of(n))]++
		}
		for a := range p {
			if groups.In(m.g, of(a)) {
				in++
			}
		}
		if uint64(len(powers)) != q || in != q {
			t.Errorf("by %d, %d: %d, %d", p, q, len(powers), in)
		}
	}
}

// P8.4, P8.5: a product does not ask for the order, nor for how it is parted.
func TestProductsOfParts(t *testing.T) {
	r := rand.New(rand.NewSource(12))
	for _, p := range moduli(t) {
		g := by(p)
		a, n := some(r, p, 7)
		whole, _ := groups.Product(g, a, n)
		for i := range a {
			one, _ := groups.Product(g, a[:i], n[:i])
			two, _ := groups.Product(g, a[i:], n[i:])
			if got := roundBy(p, times(one, two)); got != whole {
				t.Errorf("by %x, parted at %d: %x, not %x", p, i, got, whole)
			}
		}
		slices.Reverse(a)
		slices.Reverse(n)
		if got, e := groups.Product(g, a, n); got != whole || e != api.OK {
			t.Errorf("by %x, turned round: %x, %d", p, got, e)
		}
	}
}

// R4: lists that are handed in stay, with what lies in their spare room.
func TestListsStay(t *testing.T) {
	r := rand.New(rand.NewSource(13))
	for _, m := range append(great(t)[:3], example()) {
		a, n := some(r, m.g.P, 9)
		a[8] = of(0)
		wasA, wasN := slices.Clone(a), slices.Clone(n)
		for many := range 10 {
			for _, more := range []int{0, 1} {
				groups.Product(m.g, a[:many], n[:max(many-more, 0)])
				groups.Product(m.g, a[:many], a[:many])
				if !slices.Equal(a, wasA) || !slices.Equal(n, wasN) {
					t.Fatalf("of %d", many)
				}
			}
		}
		want, wrong := product(m.g, a[:8], a[:8])
		if got, e := groups.Product(m.g, a[:8], a[:8]); got != want || e != wrong {
			t.Errorf("of one list twice: %x, %d", got, e)
		}
	}
}

// copied: a reason that shares nothing with r.
func copied(r api.Reason) api.Reason {
	var parts []api.Reason
	for _, part := range r.Parts[:cap(r.Parts)] {
		parts = append(parts, copied(part))
	}
	r.Parts = parts
	return r
}

// R4, R5: reasons stay, their spare room too, and asked again the answer is the same.
func TestReasonsStay(t *testing.T) {
	for _, m := range great(t) {
		bad := m
		bad.g.H = of(1)
		for _, n := range []made{m, bad, {m.g, m.q, m.p}} {
			p, q := copied(n.p), copied(n.q)
			one, two := n.holds(), n.holds()
			if want := len(broken(n)) == 0; one != want || two != want {
				t.Errorf("%d: %t, then %t", n.g, one, two)
			}
			if !reflect.DeepEqual(copied(n.p), p) || !reflect.DeepEqual(copied(n.q), q) {
				t.Errorf("%d: reasons changed", n.g)
			}
		}
	}
}

// answers: what all calls tell of these numbers.
func answers(g api.Group, a, b api.Num) [10]api.Num {
	var l [10]api.Num
	keep := func(at int, n api.Num, e api.Errno) { l[at], l[at+1] = n, of(uint64(e)) }
	n, e := groups.Mul(g, a, b)
	keep(0, n, e)
	n, e = groups.Inv(g, a)
	keep(2, n, e)
	n, e = groups.Exp(g, a, b)
	keep(4, n, e)
	n, e = groups.Product(g, []api.Num{a, b}, []api.Num{b, a})
	keep(6, n, e)
	if groups.In(g, a) {
		l[8] = of(1)
	}
	if groups.Check(g, api.Reason{N: g.P, Witness: a}, api.Reason{N: g.Q, Witness: b}) {
		l[9] = of(1)
	}
	return l
}

// R1, R2, R5: whatever is handed in, all calls end, answer the same again, and nothing beside an error.
func TestAgain(t *testing.T) {
	l := []api.Num{of(0), of(1), of(2), of(3), of(11), of(23), {0, 0, 0, 1 << 63}, numOf(near(255, 1, -19)), highest()}
	for _, p := range l {
		for _, q := range l {
			for _, a := range l {
				for _, b := range l {
					g := api.Group{P: p, Q: q, G: a, H: b}
					one, two := answers(g, a, b), answers(g, a, b)
					if one != two {
						t.Errorf("%x, %x, %x, %x: %x, then %x", p, q, a, b, one, two)
					}
					for i := 0; i < 8; i += 2 {
						if one[i+1] != of(0) && one[i] != of(0) {
							t.Errorf("%x, %x, %x: %x with an error", p, a, b, one[i])
						}
					}
				}
			}
		}
	}
}
