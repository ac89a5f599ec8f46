package proofs_test

import (
	"math/rand"
	"strings"
	"testing"

	"balefire/api"
	"balefire/groups"
)

// The groups of these tests may be: the small ones with their reasons; of the others both are prime, and G and H are of the group.
func TestGroupsMayBe(t *testing.T) {
	for _, g := range smallGroups(48) {
		if !groups.Check(g, api.Reason{N: g.P}, api.Reason{N: g.Q}) {
			t.Errorf("the test's own group %d", g)
		}
	}
	for _, g := range append(groupsThatMayBe(), shortOrders()...) {
		if !bigOf(g.P).ProbablyPrime(30) || !bigOf(g.Q).ProbablyPrime(30) || !groups.In(g, g.G) || !groups.In(g, g.H) || g.G == of(1) || g.H == of(1) {
			t.Errorf("the test's own group %d", g)
		}
	}
}

// passes: what is proved does so, of the powers of both by x.
func passes(t *testing.T, k task) {
	t.Helper()
	p, e := k.prove()
	a, f := groups.Exp(k.g, k.base, k.x)
	b, wrong := groups.Exp(k.g, k.y, k.x)
	if e != api.OK || f != api.OK || wrong != api.OK {
		t.Errorf("Prove(%x): %d, its powers: %d, %d", k, e, f, wrong)
	}
	isCheck(t, claim{k.g, k.as, k.base, a, k.y, b, p}, true)
}

// P14.3: in all groups of small primes, with each x (0, too) and each draw.
func TestWhatIsProvedPassesInSmallGroups(t *testing.T) {
	for _, g := range smallGroups(48) {
		for x := range g.Q[0] {
			for draw := uint64(1); draw < g.Q[0]; draw++ {
				for _, as := range []string{"", "share"} {
					passes(t, task{g, as, of(x), g.G, g.H, of(draw)})
				}
			}
		}
	}
}

// P14.3: and, in the smallest, of each base and each y (1, and twice the same, too).
func TestWhatIsProvedPassesOfAllSmall(t *testing.T) {
	for _, g := range smallGroups(14) {
		numbers := numbersOf(g.P[0], g.Q[0])
		for _, base := range numbers {
			for _, y := range numbers {
				for x := range g.Q[0] {
					for draw := uint64(1); draw < g.Q[0]; draw++ {
						passes(t, task{g, "open", of(x), base, y, of(draw)})
					}
				}
			}
		}
	}
}

// P14.3: in greater ones, with x and draws at both ends and between, as all texts, of any bases.
func TestWhatIsProvedPasses(t *testing.T) {
	r := rand.New(rand.NewSource(1))
	for _, g := range append(groupsThatMayBe(), shortOrders()...) {
		ends := []api.Num{of(1), of(2), more(g.Q, -2), more(g.Q, -1), exponent(r, g.Q)}
		anyBase := func() api.Num { return power(g.G, one(r, g.Q), g.P) }
		for _, draw := range ends {
			for _, x := range append(ends, of(0)) {
				passes(t, task{g, anyText(r), x, anyBase(), anyBase(), draw})
			}
		}
		for _, as := range someTexts() {
			passes(t, task{g, as, one(r, g.Q), g.G, g.H, exponent(r, g.Q)})
			passes(t, task{g, as, of(0), g.G, anyBase(), exponent(r, g.Q)})
		}
		for _, base := range []api.Num{of(1), g.G, g.H} {
			for _, y := range []api.Num{of(1), g.G, g.H} {
				passes(t, task{g, "x", one(r, g.Q), base, y, exponent(r, g.Q)})
			}
		}
	}
}

// greatGroups: those in which nothing passes by chance.
func greatGroups() []api.Group { return groupsThatMayBe()[4:6] }

// P14.1, P14.3: whatever was drawn, it passes; and what is drawn otherwise is proved otherwise.
func TestWhateverWasDrawn(t *testing.T) {
	r := rand.New(rand.NewSource(2))
	for _, g := range greatGroups() {
		k := anyTask(r, g)
		seen := map[api.Proof]int{}
		for range 20 {
			k.draw = exponent(r, g.Q)
			c := made(t, k)
			isCheck(t, c, true)
			seen[c.p]++
		}
		if len(seen) != 20 {
			t.Errorf("by %x: %d proofs of 20 draws", g, len(seen))
		}
	}
}

// changedProofs: what is near to a proof: one more or less in C, or in S, both, and all that is changed for another one.
func changedProofs(p api.Proof) []api.Proof {
	l := []api.Proof{{C: p.S, S: p.C}, {C: p.C, S: p.C}, {C: p.S, S: p.S}, {C: p.C}, {S: p.S}, {}}
	for _, by := range []int64{1, -1} {
		l = append(l, api.Proof{C: more(p.C, by), S: p.S}, api.Proof{C: p.C, S: more(p.S, by)}, api.Proof{C: more(p.C, by), S: more(p.S, by)})
	}
	for word := range api.Words {
		for _, bit := range []uint64{1, 1 << 40, 1 << 63} {
			one, two := p, p
			one.C[word] ^= bit
			two.S[word] ^= bit
			l = append(l, one, two)
		}
	}
	return l
}

// changedNumbers: one of the four is one more or less, its inverse, times G, times what is not of the group, or P more; or two of the four are turned, or both pairs are, or two are made alike.
func changedNumbers(c claim) []claim {
	var l []claim
	for place := range names {
		n := *c.at(place)
		inverse, _ := groups.Inv(c.g, n)
		next, _ := groups.Mul(c.g, n, c.g.G)
		other, _ := groups.Mul(c.g, n, more(c.g.P, -1))
		for _, n := range []api.Num{more(n, 1), more(n, -1), inverse, next, other, plus(n, c.g.P), of(0), of(1), c.g.P, c.g.Q, highest()} {
			l = append(l, c.put(place, n))
		}
		for second := range place {
			l = append(l, c.put(place, *c.at(second)).put(second, n), c.put(place, *c.at(second)), c.put(second, n))
		}
	}
	return append(l, claim{c.g, c.as, c.y, c.b, c.base, c.a, c.p}, claim{c.g, c.as, c.a, c.base, c.b, c.y, c.p})
}

// changedTexts: one letter more or less at either end, another one, none.
func changedTexts(as string) []string {
	return []string{as + "x", "x" + as, as + "\x00", "\x00" + as, as[1:], as[:len(as)-1], strings.ToUpper(as), "y" + as[1:], as + as, ""}
}

// greatTask: of which nothing that is changed is what it was.
func greatTask(r *rand.Rand, g api.Group) task {
	return task{g, "share", exponent(r, g.Q), power(g.G, exponent(r, g.Q), g.P), power(g.G, exponent(r, g.Q), g.P), exponent(r, g.Q)}
}

// P14.2: what was proved, and changed, does not pass.
func TestChangedProofs(t *testing.T) {
	r := rand.New(rand.NewSource(3))
	for _, g := range greatGroups() {
		for range 3 {
			c := made(t, greatTask(r, g))
			isCheck(t, c, true)
			for _, p := range changedProofs(c.p) {
				isCheck(t, c.with(p), false)
			}
		}
	}
}

// P14.2: nor of other numbers than what was proved, or of the same ones in another order.
func TestChangedNumbers(t *testing.T) {
	r := rand.New(rand.NewSource(4))
	for _, g := range greatGroups() {
		for range 3 {
			c := made(t, greatTask(r, g))
			for _, other := range changedNumbers(c) {
				isCheck(t, other, false)
			}
			isCheck(t, c, true)
		}
	}
}

// P14.2: nor as another text.
func TestChangedTexts(t *testing.T) {
	r := rand.New(rand.NewSource(5))
	for _, g := range greatGroups() {
		c := made(t, greatTask(r, g))
		for _, as := range changedTexts(c.as) {
			other := c
			other.as = as
			isCheck(t, other, false)
		}
		isCheck(t, c, true)
		k := greatTask(r, g)
		k.as = ""
		c = made(t, k)
		isCheck(t, c, true)
		for _, c.as = range someTexts()[1:] {
			isCheck(t, c, false)
		}
	}
}

// P14.2: nor of powers by unlike exponents, with a proof of either of them, nor one that is put together of both.
func TestUnlikeExponents(t *testing.T) {
	r := rand.New(rand.NewSource(6))
	for _, g := range greatGroups() {
		k := greatTask(r, g)
		one := made(t, k)
		for _, x := range []api.Num{of(0), of(1), more(k.x, 1), more(k.x, -1), more(g.Q, -1), exponent(r, g.Q)} {
			other := k
			other.x = x
			two := made(t, other)
			isCheck(t, two, true)
			for _, p := range []api.Proof{one.p, two.p, {C: one.p.C, S: two.p.S}, {C: two.p.C, S: one.p.S}, {}} {
				isCheck(t, claim{g, k.as, k.base, one.a, k.y, two.b, p}, false)
				isCheck(t, claim{g, k.as, k.base, two.a, k.y, one.b, p}, false)
			}
			isCheck(t, one.with(two.p), false)
			isCheck(t, two.with(one.p), false)
		}
		isCheck(t, one, true)
	}
}

// P14.2: nor what only one of both sides holds for: a proof that was made with unlike exponents, of one and the same challenge.
func TestProvedOfOneSideOnly(t *testing.T) {
	r := rand.New(rand.NewSource(7))
	for _, g := range greatGroups() {
		k := greatTask(r, g)
		c := made(t, k)
		c.b, _ = groups.Mul(g, c.b, g.G)
		c.p.C = challenge(g.Q, k.as, c.base, c.a, c.y, c.b, power(k.base, k.draw, g.P), power(k.y, k.draw, g.P))
		c.p.S = plusProduct(g.Q, k.draw, k.x, c.p.C)
		if c.numberOf(c.base, c.a) != power(k.base, k.draw, g.P) || !c.brokenAlone(otherC) {
			t.Fatalf("the test's own claim: %x", c)
		}
		isCheck(t, c, false)
		// The sides turned: now the first one is wrong.
		c = made(t, k)
		c.a, _ = groups.Mul(g, c.a, g.G)
		c.p.C = challenge(g.Q, k.as, c.base, c.a, c.y, c.b, power(k.base, k.draw, g.P), power(k.y, k.draw, g.P))
		c.p.S = plusProduct(g.Q, k.draw, k.x, c.p.C)
		if c.numberOf(c.y, c.b) != power(k.y, k.draw, g.P) || !c.brokenAlone(otherC) {
			t.Fatalf("the test's own claim: %x", c)
		}
		isCheck(t, c, false)
	}
}

// P14.2: nor what was proved with another draw, base, y or text, put together with it.
func TestProvedOtherwise(t *testing.T) {
	r := rand.New(rand.NewSource(8))
	for _, g := range greatGroups() {
		k := greatTask(r, g)
		c := made(t, k)
		others := []task{k, k, k, k}
		others[0].draw = exponent(r, g.Q)
		others[1].base = g.G
		others[2].y = g.G
		others[3].as = "open"
		for i, other := range others {
			two := made(t, other)
			isCheck(t, two, true)
			isCheck(t, c.with(two.p), i == 0)
			isCheck(t, c.with(api.Proof{C: c.p.C, S: two.p.S}), false)
			isCheck(t, c.with(api.Proof{C: two.p.C, S: c.p.S}), false)
		}
	}
}

// P14.2: in small groups what is changed passes by chance now and then: just where the chapter's words have it so.
func TestChangedInSmallGroups(t *testing.T) {
	r := rand.New(rand.NewSource(9))
	passed, not := 0, 0
	count := func(c claim) {
		if checkCheck(t, c) {
			passed++
		} else {
			not++
		}
	}
	for _, g := range append(shortOrders(), safe(of(1013)), safe(of(2147483543))) {
		for range 12 {
			k := greatTask(r, g)
			c := made(t, k)
			for _, p := range changedProofs(c.p) {
				count(c.with(p))
			}
			for _, other := range changedNumbers(c) {
				count(other)
			}
			for _, as := range changedTexts(c.as) {
				other := c
				other.as = as
				count(other)
			}
			k.x = one(r, g.Q)
			two := made(t, k)
			count(c.with(two.p))
			count(claim{g, k.as, k.base, c.a, k.y, two.b, two.p})
		}
	}
	if passed < 100 || not < 1000 {
		t.Errorf("%d passed, %d did not", passed, not)
	}
}
