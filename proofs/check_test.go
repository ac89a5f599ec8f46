package proofs_test

import (
	"math/rand"
	"testing"

	"balefire/api"
)

// P14.2: the chapter's Examples: 4^5 is 12, 9^5 is 8.
func TestExamplesOfCheck(t *testing.T) {
	g := example()
	if power(of(4), of(5), g.P) != of(12) || power(of(9), of(5), g.P) != of(8) {
		t.Fatal("the test's own numbers")
	}
	p, e := task{g, "x", of(5), of(4), of(9), of(3)}.prove()
	if e != api.OK {
		t.Errorf("Prove: %d", e)
	}
	isCheck(t, claim{g, "x", of(4), of(12), of(9), of(8), p}, true)
	isCheck(t, claim{g, "x", of(4), of(12), of(9), of(5), p}, false)
	isCheck(t, claim{g, "x", of(0), of(12), of(9), of(8), p}, false)
}

// pair: C and S.
type pair struct{ c, s uint64 }

func (p pair) proof() api.Proof { return api.Proof{C: of(p.c), S: of(p.s)} }

// P14.2: all that passes, told by hand (the challenges by other means than the program's).
func TestCheckByHand(t *testing.T) {
	for _, r := range []struct {
		p, q          uint64
		as            string
		base, a, y, b uint64
		passes        []pair
	}{
		{23, 11, "x", 4, 12, 9, 8, []pair{{0, 3}, {2, 3}, {3, 2}, {3, 5}, {3, 10}, {4, 0}, {4, 8}, {5, 0}, {6, 2}, {10, 2}, {10, 6}}},
		{23, 11, "", 4, 12, 9, 8, []pair{{0, 1}, {2, 3}, {2, 10}, {3, 6}, {3, 10}, {6, 2}, {6, 6}, {8, 4}, {9, 0}, {9, 4}, {10, 2}}},
		{23, 11, "x", 9, 8, 4, 12, []pair{{1, 6}, {2, 1}, {2, 2}, {3, 2}, {3, 8}, {5, 2}, {6, 8}, {8, 1}, {8, 2}, {9, 9}, {10, 2}}},
		// 1 is of the group: to the power of 0, or as a base.
		{23, 11, "x", 4, 1, 9, 1, []pair{{0, 6}, {2, 3}, {2, 5}, {2, 8}, {3, 9}, {3, 10}, {4, 0}, {4, 1}, {4, 2}, {4, 7}, {9, 4}}},
		{23, 11, "x", 1, 1, 1, 1, []pair{{8, 0}, {8, 1}, {8, 2}, {8, 3}, {8, 4}, {8, 5}, {8, 6}, {8, 7}, {8, 8}, {8, 9}, {8, 10}}},
		{23, 11, "x", 1, 1, 9, 8, []pair{{0, 7}, {1, 4}, {1, 9}, {2, 10}, {3, 1}, {3, 9}, {4, 10}, {5, 9}, {9, 4}, {10, 4}, {10, 8}}},
		// Of unlike logarithms, in a group so small that it comes about.
		{23, 11, "x", 4, 12, 9, 9, []pair{{1, 3}, {1, 10}, {3, 4}, {5, 7}, {6, 1}, {7, 8}, {8, 5}, {9, 4}}},
		{23, 11, "x", 4, 12, 9, 4, []pair{{0, 6}, {1, 0}, {2, 3}, {2, 10}, {3, 2}, {3, 8}, {4, 2}, {4, 8}, {5, 0}, {5, 1}, {5, 3}, {6, 5}}},
		{23, 2, "x", 22, 22, 22, 22, []pair{{0, 1}, {1, 1}}}, {23, 2, "x", 22, 22, 1, 1, []pair{{0, 0}, {0, 1}}}, {23, 2, "x", 22, 22, 22, 1, []pair{{0, 0}, {1, 1}}}, {23, 2, "x", 1, 22, 1, 1, nil},
		// No prime P, or Q.
		{15, 2, "x", 4, 11, 14, 4, []pair{{0, 0}, {0, 1}}}, {15, 4, "x", 2, 4, 7, 4, []pair{{1, 0}, {1, 3}, {3, 1}, {3, 2}}}, {15, 4, "x", 2, 8, 7, 13, []pair{{0, 1}, {1, 1}, {2, 1}, {3, 1}}}, {15, 4, "x", 2, 4, 7, 7, []pair{{1, 1}, {2, 0}, {2, 1}}},
		{8, 2, "x", 3, 3, 7, 7, []pair{{0, 0}, {1, 0}}}, {3, 2, "x", 2, 2, 2, 2, []pair{{0, 0}, {0, 1}}},
		{2, 2, "x", 1, 1, 1, 1, []pair{{0, 0}, {0, 1}}}, {2, 5, "x", 1, 1, 1, 1, []pair{{2, 0}, {2, 1}, {2, 2}, {2, 3}, {2, 4}}},
		// Numbers that are not of the group.
		{23, 11, "x", 0, 12, 9, 8, nil}, {23, 11, "x", 5, 12, 9, 8, nil}, {23, 11, "x", 22, 12, 9, 8, nil}, {23, 11, "x", 23, 12, 9, 8, nil}, {23, 11, "x", 27, 12, 9, 8, nil},
		{23, 11, "x", 4, 0, 9, 8, nil}, {23, 11, "x", 4, 5, 9, 8, nil}, {23, 11, "x", 4, 22, 9, 8, nil}, {23, 11, "x", 4, 23, 9, 8, nil}, {23, 11, "x", 4, 35, 9, 8, nil},
		{23, 11, "x", 4, 12, 0, 8, nil}, {23, 11, "x", 4, 12, 5, 8, nil}, {23, 11, "x", 4, 12, 22, 8, nil}, {23, 11, "x", 4, 12, 23, 8, nil}, {23, 11, "x", 4, 12, 32, 8, nil},
		{23, 11, "x", 4, 12, 9, 0, nil}, {23, 11, "x", 4, 12, 9, 5, nil}, {23, 11, "x", 4, 12, 9, 22, nil}, {23, 11, "x", 4, 12, 9, 23, nil}, {23, 11, "x", 4, 12, 9, 31, nil},
		// Groups that are none.
		{23, 1, "x", 1, 1, 1, 1, nil}, {2, 1, "x", 1, 1, 1, 1, nil}, {23, 0, "x", 1, 1, 1, 1, nil}, {23, 0, "x", 4, 12, 9, 8, nil},
		{1, 11, "x", 0, 0, 0, 0, nil}, {1, 11, "x", 1, 1, 1, 1, nil}, {0, 11, "x", 4, 12, 9, 8, nil}, {0, 11, "x", 1, 1, 1, 1, nil}, {0, 0, "x", 0, 0, 0, 0, nil},
	} {
		may := map[pair]bool{}
		for _, p := range r.passes {
			may[p] = true
		}
		for c := range r.q + 3 {
			for s := range r.q + 3 {
				p := pair{c, s}
				isCheck(t, claim{api.Group{P: of(r.p), Q: of(r.q)}, r.as, of(r.base), of(r.a), of(r.y), of(r.b), p.proof()}, may[p])
			}
		}
	}
}

// eachSmall: all there is by P up to 4 and Q up to 3; what may not be, too.
func eachSmall(try func(c claim)) {
	for p := range uint64(5) {
		for q := range uint64(4) {
			g := api.Group{P: of(p), Q: of(q)}
			some := p + 2
			for all := range some * some * some * some {
				c := claim{g: g, as: "x", base: of(all % some), a: of(all / some % some), y: of(all / some / some % some), b: of(all / some / some / some)}
				for two := range (q + 2) * (q + 2) {
					try(c.with(pair{two % (q + 2), two / (q + 2)}.proof()))
				}
			}
		}
	}
}

// P14.2: so; each sentence is seen broken by itself, but that of C: a challenge is below Q anyway.
func TestCheckOfAllSmall(t *testing.T) {
	alone, passed := map[string]int{}, 0
	eachSmall(func(c claim) {
		l := c.broken()
		isCheck(t, c, len(l) == 0)
		switch len(l) {
		case 0:
			passed++
		case 1:
			alone[l[0]]++
		}
	})
	must := []string{lowQ, greatS, otherC}
	for _, name := range names {
		must = append(must, name+mayNot, name+out)
	}
	for _, what := range must {
		if alone[what] < 3 {
			t.Errorf("%s, by itself: %d times", what, alone[what])
		}
	}
	if alone[greatC] != 0 || passed < 60 {
		t.Errorf("%d passed; %v", passed, alone)
	}
}

// P14.2: by the chapter's group, of numbers that are and that are not of it.
func TestCheckByTheChaptersGroup(t *testing.T) {
	r := rand.New(rand.NewSource(1))
	numbers := list(0, 1, 2, 4, 5, 8, 9, 12, 22, 23, 24, 27)
	passed, not := 0, 0
	for range 30000 {
		some := func() api.Num { return numbers[min(r.Intn(len(numbers)), 1+r.Intn(len(numbers)-1))] }
		if checkCheck(t, claim{example(), "x", some(), some(), some(), some(), pair{uint64(r.Intn(13)), uint64(r.Intn(13))}.proof()}) {
			passed++
		} else {
			not++
		}
	}
	if passed < 20 || not < 1000 {
		t.Errorf("%d passed, %d did not", passed, not)
	}
}

// forged: the claim with C and S that pass but for what is told (nothing, if it is ""), by the group's Q, which is small.
func forged(r *rand.Rand, what string, c claim) (made claim, found bool) {
	for range 4000 {
		c.p = api.Proof{C: one(r, c.g.Q), S: one(r, c.g.Q)}
		if l := c.broken(); len(l) == 0 && what == "" || len(l) == 1 && l[0] == what {
			return c, true
		}
	}
	return claim{}, false
}

// P14.2: base, a, y and b that are each 0, 1, P less one, P and above, or not of the group: in the place of what was proved.
func TestCheckOfNumbersInTheirPlaces(t *testing.T) {
	r := rand.New(rand.NewSource(2))
	for _, g := range groupsThatMayBe() {
		c := made(t, anyTask(r, g))
		isCheck(t, c, true)
		for place := range names {
			was := *c.at(place)
			for _, n := range append(tooGreat(g.P), of(0), of(1), more(g.P, -1), of(5), plus(g.P, was), plus(g.P, of(5))) {
				other := c.put(place, n)
				checkCheck(t, other)
				if n == of(0) || !below(n, g.P) || power(n, g.Q, g.P) != of(1) {
					isCheck(t, other, false)
				}
			}
		}
	}
}

// P14.2: what is not of the group does not pass, in whichever place, also where C is the challenge.
func TestCheckOfNumbersThatAreNotOfTheGroup(t *testing.T) {
	r := rand.New(rand.NewSource(3))
	for _, g := range shortOrders() {
		for place, name := range names {
			c := made(t, anyTask(r, g))
			for what, l := range map[string][]api.Num{
				mayNot: {plus(g.P, *c.at(place)), plus(g.P, of(1)), plus(plus(g.P, g.P), g.H)},
				out:    {more(g.P, -1), of(5)},
			} {
				for _, n := range l {
					other, found := forged(r, name+what, c.put(place, n))
					if !found {
						t.Fatalf("the test's own: %s, %x, %x", name+what, g, n)
					}
					isCheck(t, other, false)
				}
			}
		}
	}
}

// P14.2: 1 is of the group, so it passes, in whichever place, and in all, where C is the challenge.
func TestCheckOfOne(t *testing.T) {
	r := rand.New(rand.NewSource(4))
	for _, g := range shortOrders() {
		ones := claim{g: g, as: "share", base: of(1), a: of(1), y: of(1), b: of(1)}
		c := made(t, anyTask(r, g))
		for _, other := range []claim{ones, ones.put(0, g.G), ones.put(2, g.G), c.put(0, of(1)), c.put(1, of(1)), c.put(2, of(1)), c.put(3, of(1))} {
			passes, found := forged(r, "", other)
			if !found {
				t.Fatalf("the test's own: %x", other)
			}
			isCheck(t, passes, true)
		}
	}
}

// P14.2: C and S at both ends of what may be and beyond, each by itself and both.
func TestCheckOfCAndS(t *testing.T) {
	r := rand.New(rand.NewSource(5))
	for _, g := range groupsThatMayBe() {
		c := made(t, anyTask(r, g))
		isCheck(t, c, true)
		for _, n := range endsOf(r, g.Q) {
			checkCheck(t, c.with(api.Proof{C: n, S: c.p.S}))
			checkCheck(t, c.with(api.Proof{C: c.p.C, S: n}))
			for _, k := range endsOf(r, g.Q) {
				checkCheck(t, c.with(api.Proof{C: n, S: k}))
			}
		}
		for _, n := range tooGreat(g.Q) {
			isCheck(t, c.with(api.Proof{C: n, S: c.p.S}), false)
			isCheck(t, c.with(api.Proof{C: c.p.C, S: n}), false)
			isCheck(t, c.with(api.Proof{C: n, S: n}), false)
		}
	}
}

// P14.2: S that is Q more tells the same numbers, and does not pass; nor does C that is Q more.
func TestCheckOfQMore(t *testing.T) {
	r := rand.New(rand.NewSource(6))
	for _, g := range groupsThatMayBe() {
		c := made(t, anyTask(r, g))
		greater := c.with(api.Proof{C: c.p.C, S: plus(c.p.S, g.Q)})
		if !greater.brokenAlone(greatS) {
			t.Fatalf("the test's own proof: %x", greater)
		}
		isCheck(t, greater, false)
		isCheck(t, c.with(api.Proof{C: plus(c.p.C, g.Q), S: c.p.S}), false)
		isCheck(t, c.with(api.Proof{C: plus(c.p.C, g.Q), S: plus(c.p.S, g.Q)}), false)
	}
}

// P14.2: all of C must be the challenge's: by P 3, all powers but the last bit go round, so that each other bit of C tells the same numbers.
func TestCheckOfEachBitOfC(t *testing.T) {
	g := api.Group{P: of(3), Q: near(255, 0)}
	for _, as := range someTexts()[:4] {
		c := made(t, task{g, as, of(1), of(2), of(2), of(3)})
		isCheck(t, c, true)
		for bit := range uint(255) {
			other := c
			other.p.C[bit/64] ^= 1 << (bit % 64)
			if bit > 0 && other.numberOf(c.base, c.a) != c.numberOf(c.base, c.a) {
				t.Fatalf("the test's own C %x", other.p.C)
			}
			isCheck(t, other, false)
		}
	}
}

// P14.2: C that is 0, and S that is 0, pass where they may: of texts that are gone through.
func TestCheckOfNoughts(t *testing.T) {
	r := rand.New(rand.NewSource(7))
	for _, g := range append(shortOrders(), api.Group{P: of(3), Q: of(2), G: of(2), H: of(2)}) {
		seen := map[string]int{}
		x := more(g.Q, -1)
		c := claim{g: g, base: g.G, a: power(g.G, x, g.P), y: g.H, b: power(g.H, x, g.P)}
		for i := range 1200 {
			c.as = string(rune('a' + i))
			for what, p := range map[string]api.Proof{"C": {S: one(r, g.Q)}, "S": {C: one(r, g.Q)}, "both": {}, "less one": {C: more(g.Q, -1), S: more(g.Q, -1)}} {
				if checkCheck(t, c.with(p)) {
					seen[what]++
				}
			}
		}
		if seen["C"] < 20 || seen["S"] < 20 || seen["both"] < 20 || seen["less one"] < 20 {
			t.Errorf("by %x passed: %v", g, seen)
		}
	}
}

// P14.2: by Q 0 and 1 nothing passes: neither by 1, where all else may hold.
func TestCheckByQWhereNothingGoesRound(t *testing.T) {
	l := []api.Num{of(0), of(1), of(2), highest()}
	for _, p := range append(modules(), nothingGoesRound()...) {
		for _, q := range nothingGoesRound() {
			for _, n := range append(l, more(p, -1)) {
				for place := range names {
					for _, x := range l {
						for _, y := range l {
							c := claim{api.Group{P: p, Q: q}, "x", of(1), of(1), of(1), of(1), api.Proof{C: x, S: y}}
							isCheck(t, c, false)
							isCheck(t, c.put(place, n), false)
						}
					}
				}
			}
		}
		if ones := (claim{api.Group{P: p, Q: of(1)}, "x", of(1), of(1), of(1), of(1), api.Proof{}}); below(of(1), p) != ones.brokenAlone(lowQ) {
			t.Fatalf("the test's own claim: %x", ones)
		}
	}
}

// P14.2: by Q 2, P less one is of the group, and, where P is not prime, others may be.
func TestCheckByTwo(t *testing.T) {
	r := rand.New(rand.NewSource(8))
	passed := 0
	for _, p := range modules() {
		numbers := []api.Num{more(p, -1), more(p, -1), of(1), of(4), of(11), exponent(r, p)}
		some := func() api.Num { return numbers[r.Intn(len(numbers))] }
		for range 30 {
			c := claim{g: api.Group{P: p, Q: of(2)}, as: anyText(r), base: some(), a: some(), y: some(), b: some()}
			for two := range uint64(9) {
				if checkCheck(t, c.with(pair{two % 3, two / 3}.proof())) {
					passed++
				}
			}
		}
	}
	if passed < 100 {
		t.Errorf("%d passed", passed)
	}
}

// P14.2: by P 0 and 1 nothing passes; by 2, 1 alone is of the group, whatever Q is.
func TestCheckBySmallP(t *testing.T) {
	r := rand.New(rand.NewSource(9))
	for _, q := range orders() {
		ones := made(t, task{api.Group{P: of(2), Q: q}, "x", one(r, q), of(1), of(1), exponent(r, q)})
		isCheck(t, ones, true)
		for place := range names {
			for _, n := range []api.Num{of(0), of(2), of(3), highest()} {
				isCheck(t, ones.put(place, n), false)
			}
		}
		for _, p := range nothingGoesRound() {
			for _, n := range []api.Num{of(0), of(1), of(2), highest()} {
				isCheck(t, claim{api.Group{P: p, Q: q}, "x", n, n, n, n, ones.p}, false)
				isCheck(t, claim{api.Group{P: p, Q: q}, "x", n, n, n, n, api.Proof{}}, false)
			}
		}
	}
}

// P14.2: by what is not prime: what is proved there passes just where the chapter's words have it so.
func TestCheckByMany(t *testing.T) {
	r := rand.New(rand.NewSource(10))
	passed, not := 0, 0
	for _, q := range orders() {
		for _, p := range append(modules(), more(q, 1)) {
			if !below(of(1), p) {
				continue
			}
			numbers := []api.Num{exponent(r, p), more(p, -1), of(1)}
			for _, base := range numbers {
				for _, y := range numbers {
					if checkCheck(t, made(t, task{api.Group{P: p, Q: q}, anyText(r), one(r, q), base, y, exponent(r, q)})) {
						passed++
					} else {
						not++
					}
				}
			}
		}
	}
	if passed < 30 || not < 30 {
		t.Errorf("%d passed, %d did not", passed, not)
	}
}

// P14.2: neither G nor H is asked for.
func TestCheckAsksNotForGAndH(t *testing.T) {
	r := rand.New(rand.NewSource(11))
	for _, g := range groupsThatMayBe() {
		c := made(t, anyTask(r, g))
		for _, n := range []api.Num{of(0), of(1), of(5), g.P, g.Q, highest()} {
			for _, c.g = range []api.Group{{P: g.P, Q: g.Q, G: n, H: g.H}, {P: g.P, Q: g.Q, G: g.G, H: n}, {P: g.P, Q: g.Q, G: n, H: n}} {
				isCheck(t, c, true)
			}
		}
	}
}
