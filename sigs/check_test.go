package sigs_test

import (
	"math/rand"
	"testing"

	"balefire/api"
	"balefire/sigs"
)

// P13.2: the chapter's Examples: 4^5 is 12.
func TestExamplesOfCheck(t *testing.T) {
	g := example()
	if power(of(4), of(5), g.P) != of(12) {
		t.Fatal("the test's own number")
	}
	for _, h := range someHashes() {
		s, e := sigs.Sign(g, of(5), h, of(3))
		if e != api.OK {
			t.Errorf("Sign: %d", e)
		}
		isCheck(t, g, of(12), h, s, true)
		isCheck(t, g, of(1), h, s, false)
		isCheck(t, g, of(5), h, s, false)
	}
}

// pair: C and S.
type pair struct{ c, s uint64 }

func (p pair) signature() api.Signature { return api.Signature{C: of(p.c), S: of(p.s)} }

// P13.2: all that passes of noughts, told by hand (the challenges by other means than the program's).
func TestCheckByHand(t *testing.T) {
	for _, r := range []struct {
		p, q, g, key uint64
		passes       []pair
	}{
		{23, 11, 4, 12, []pair{{0, 2}, {2, 0}, {2, 7}, {4, 9}, {6, 6}, {6, 7}, {7, 6}, {7, 8}, {9, 4}, {9, 8}, {10, 0}}},
		// G need not be of the group.
		{23, 11, 5, 12, []pair{{0, 3}, {0, 8}, {1, 5}, {2, 0}, {2, 6}, {6, 2}, {6, 6}, {7, 2}, {7, 7}, {7, 10}, {9, 9}, {9, 10}, {10, 0}}},
		{23, 2, 4, 22, []pair{{0, 1}, {1, 0}, {1, 1}}}, {23, 2, 22, 22, []pair{{1, 0}, {1, 1}}},
		// No prime P: G to the power of S may be 0, or have what is in common with it.
		{15, 2, 3, 4, []pair{{0, 0}, {1, 0}, {1, 1}}}, {15, 4, 6, 2, []pair{{3, 0}}}, {8, 2, 2, 3, []pair{{0, 0}, {1, 1}}}, {8, 2, 2, 7, []pair{{0, 1}, {1, 1}}},
		{3, 2, 2, 2, []pair{{1, 0}, {1, 1}}}, {3, 2, 1, 2, []pair{{1, 0}, {1, 1}}},
		// Keys that are none.
		{23, 11, 4, 0, nil}, {23, 11, 4, 1, nil}, {23, 11, 4, 5, nil}, {23, 11, 4, 22, nil}, {23, 11, 4, 23, nil}, {23, 11, 4, 24, nil}, {23, 11, 4, 35, nil},
		// Groups that are none.
		{23, 11, 0, 12, nil}, {23, 11, 23, 12, nil}, {23, 11, 27, 12, nil}, {1, 11, 0, 0, nil}, {1, 11, 1, 1, nil}, {0, 11, 4, 12, nil}, {23, 1, 4, 12, nil}, {23, 1, 4, 1, nil}, {23, 0, 4, 12, nil}, {23, 0, 4, 1, nil}, {2, 2, 1, 1, nil},
	} {
		g := api.Group{P: of(r.p), Q: of(r.q), G: of(r.g)}
		want := map[pair]bool{}
		for _, p := range r.passes {
			want[p] = true
		}
		for c := range r.q + 3 {
			for s := range r.q + 3 {
				p := pair{c, s}
				isCheck(t, g, of(r.key), api.Hash{}, p.signature(), want[p])
			}
		}
	}
}

// P13.2: told by hand: each pair that would pass, were the key one.
func TestCheckOfKeysThatAreNoneByHand(t *testing.T) {
	for key, l := range map[uint64][]pair{
		0:  {{3, 0}, {3, 1}, {3, 2}, {3, 3}, {3, 10}},
		1:  {{1, 3}, {3, 1}, {4, 5}, {4, 9}, {5, 0}, {5, 4}, {7, 6}, {7, 7}, {7, 8}, {9, 10}, {10, 2}},
		5:  {{0, 8}, {1, 5}, {2, 7}, {2, 9}, {3, 5}, {3, 6}, {3, 10}, {5, 8}, {5, 9}, {6, 0}, {10, 2}},
		22: {{0, 8}, {0, 9}, {1, 3}, {2, 1}, {3, 2}, {4, 6}, {5, 1}, {6, 4}, {6, 7}, {7, 6}, {8, 10}, {10, 2}, {10, 5}},
		23: {{4, 0}, {4, 1}, {4, 2}, {4, 3}, {4, 10}},
		24: {{0, 0}, {0, 4}, {0, 6}, {0, 10}, {2, 1}, {2, 7}, {5, 2}, {6, 8}, {8, 5}, {9, 3}, {10, 9}},
		35: {{1, 2}, {2, 10}, {3, 6}, {3, 7}, {3, 9}, {3, 10}, {4, 7}, {5, 7}, {8, 3}, {8, 8}, {9, 0}},
	} {
		for _, p := range l {
			s := p.signature()
			if s.C != challenge(of(11), of(key), numberOf(example(), of(key), s), api.Hash{}) {
				t.Fatalf("the test's own pair %v of %d", p, key)
			}
			isCheck(t, example(), of(key), api.Hash{}, s, false)
		}
	}
}

// eachSmall: all there is by P up to 5 and Q up to 4, and by the chapter's group; what may not be, too.
func eachSmall(try func(g api.Group, key api.Num, h api.Hash, s api.Signature)) {
	pairs := func(g api.Group, key, limit uint64) {
		for c := range limit {
			for s := range limit {
				try(g, of(key), bytesTo(byte(key), 1), pair{c, s}.signature())
			}
		}
	}
	for p := range uint64(6) {
		for q := range uint64(5) {
			for n := range p + 2 {
				for key := range p + 2 {
					pairs(api.Group{P: of(p), Q: of(q), G: of(n)}, key, q+2)
				}
			}
		}
	}
	for _, n := range []uint64{0, 1, 4, 5, 9, 22, 23, 27} {
		for key := range uint64(26) {
			pairs(api.Group{P: of(23), Q: of(11), G: of(n)}, key, 13)
		}
	}
}

// P13.2: so; each sentence is seen broken by itself, but that of C: a challenge is below Q anyway.
func TestCheckOfAllSmall(t *testing.T) {
	alone, passed := map[string]int{}, 0
	eachSmall(func(g api.Group, key api.Num, h api.Hash, s api.Signature) {
		l := broken(g, key, h, s)
		isCheck(t, g, key, h, s, len(l) == 0)
		switch len(l) {
		case 0:
			passed++
		case 1:
			alone[l[0]]++
		}
	})
	for _, what := range []string{mayNotG, mayNotKey, outKey, oneKey, greatS, otherC} {
		if alone[what] < 20 {
			t.Errorf("%s, by itself: %d times", what, alone[what])
		}
	}
	if alone[greatC] != 0 || passed < 200 {
		t.Errorf("%d passed; %v", passed, alone)
	}
}

// forged: C and S that pass by all but what is told, of whatever key and G, by the group's Q, which is small.
func forged(r *rand.Rand, what string, g api.Group, key api.Num, h api.Hash) (s api.Signature, found bool) {
	for range 4000 {
		s.C, s.S = one(r, g.Q), one(r, g.Q)
		if brokenAlone(what, g, key, h, s) {
			return s, true
		}
	}
	return api.Signature{}, false
}

// P13.2: a key that is 0, 1, P less one, P and above, or not of the group, does not pass, also where C is the challenge.
func TestCheckOfKeysThatAreNone(t *testing.T) {
	r := rand.New(rand.NewSource(1))
	for _, g := range shortOrders() {
		_, s := made(t, g, exponent(r, g.Q), api.Hash{}, exponent(r, g.Q))
		keys := append(tooGreat(g.P), of(0), of(1), more(g.P, -1), of(5), plus(g.P, g.G), plus(g.P, of(5)))
		for _, key := range keys {
			isCheck(t, g, key, api.Hash{}, s, false)
		}
		for what, l := range map[string][]api.Num{
			mayNotKey: {plus(g.P, g.G), plus(g.P, g.H)},
			outKey:    {more(g.P, -1), of(5)},
			oneKey:    {of(1)},
		} {
			for _, key := range l {
				h := anyHash(r)
				s, found := forged(r, what, g, key, h)
				if !found {
					t.Fatalf("the test's own: %s, %x, %x", what, g, key)
				}
				isCheck(t, g, key, h, s, false)
			}
		}
	}
}

// P13.2: in a group whose G may not be multiplied nothing passes, also where C is the challenge.
func TestCheckByAGThatMayNotBe(t *testing.T) {
	r := rand.New(rand.NewSource(2))
	for _, g := range groupsThatMayBe() {
		h := anyHash(r)
		key, s := made(t, g, exponent(r, g.Q), h, exponent(r, g.Q))
		for _, n := range append(tooGreat(g.P), of(0)) {
			isCheck(t, api.Group{P: g.P, Q: g.Q, G: n, H: g.H}, key, h, s, false)
		}
		for _, p := range nothingGoesRound() {
			for _, n := range []api.Num{of(0), of(1), g.G} {
				isCheck(t, api.Group{P: p, Q: g.Q, G: n, H: g.H}, key, h, s, false)
			}
		}
		// The number that a greater G tells is the same, if there is room for it.
		if other := plus(g.G, g.P); below(g.P, other) {
			g.G = other
			if !brokenAlone(mayNotG, g, key, h, s) {
				t.Fatalf("the test's own signature: %x", g)
			}
			isCheck(t, g, key, h, s, false)
		}
	}
}

// P13.2: C and S at both ends of what may be and beyond, each by itself and both.
func TestCheckOfCAndS(t *testing.T) {
	r := rand.New(rand.NewSource(3))
	for _, g := range groupsThatMayBe() {
		h := anyHash(r)
		key, s := made(t, g, exponent(r, g.Q), h, exponent(r, g.Q))
		isCheck(t, g, key, h, s, true)
		for _, n := range endsOf(r, g.Q) {
			checkCheck(t, g, key, h, api.Signature{C: n, S: s.S})
			checkCheck(t, g, key, h, api.Signature{C: s.C, S: n})
			for _, k := range endsOf(r, g.Q) {
				checkCheck(t, g, key, h, api.Signature{C: n, S: k})
			}
		}
		for _, n := range tooGreat(g.Q) {
			isCheck(t, g, key, h, api.Signature{C: n, S: s.S}, false)
			isCheck(t, g, key, h, api.Signature{C: s.C, S: n}, false)
			isCheck(t, g, key, h, api.Signature{C: n, S: n}, false)
		}
	}
}

// P13.2: S that is Q more tells the same number, and does not pass; nor does C that is Q more.
func TestCheckOfQMore(t *testing.T) {
	r := rand.New(rand.NewSource(4))
	for _, g := range groupsThatMayBe() {
		h := anyHash(r)
		key, s := made(t, g, exponent(r, g.Q), h, exponent(r, g.Q))
		greater := api.Signature{C: s.C, S: plus(s.S, g.Q)}
		if !brokenAlone(greatS, g, key, h, greater) {
			t.Fatalf("the test's own signature: %x, %x", g, greater)
		}
		isCheck(t, g, key, h, greater, false)
		isCheck(t, g, key, h, api.Signature{C: plus(s.C, g.Q), S: s.S}, false)
		isCheck(t, g, key, h, api.Signature{C: plus(s.C, g.Q), S: plus(s.S, g.Q)}, false)
	}
}

// P13.2: all of C must be the challenge's: by P 3, all keys' powers but the last bit go round, so that each other bit of C tells the same number.
func TestCheckOfEachBitOfC(t *testing.T) {
	g := api.Group{P: of(3), Q: near(255, 0), G: of(2)}
	for _, h := range someHashes() {
		key, s := made(t, g, of(1), h, of(3))
		isCheck(t, g, key, h, s, true)
		for bit := range uint(255) {
			other := s
			other.C[bit/64] ^= 1 << (bit % 64)
			if bit > 0 && numberOf(g, key, other) != numberOf(g, key, s) {
				t.Fatalf("the test's own C %x", other.C)
			}
			isCheck(t, g, key, h, other, false)
		}
	}
}

// P13.2: C that is 0, and S that is 0, pass where they may: of hashes that are gone through.
func TestCheckOfNoughts(t *testing.T) {
	r := rand.New(rand.NewSource(5))
	for _, g := range append(shortOrders(), api.Group{P: of(3), Q: of(2), G: of(2), H: of(2)}) {
		seen := map[string]int{}
		key := power(g.G, more(g.Q, -1), g.P)
		for range 1200 {
			h := anyHash(r)
			for what, s := range map[string]api.Signature{"C": {S: one(r, g.Q)}, "S": {C: one(r, g.Q)}, "both": {}, "less one": {C: more(g.Q, -1), S: more(g.Q, -1)}} {
				if checkCheck(t, g, key, h, s) {
					seen[what]++
				}
			}
		}
		if seen["C"] < 20 || seen["S"] < 20 || seen["both"] < 20 || seen["less one"] < 20 {
			t.Errorf("by %x passed: %v", g, seen)
		}
	}
}

// P13.2: by Q 0 and 1 nothing passes.
func TestCheckByQWhereNothingGoesRound(t *testing.T) {
	l := []api.Num{of(0), of(1), of(2), near(64, 0), highest()}
	for _, p := range append(modules(), nothingGoesRound()...) {
		for _, q := range nothingGoesRound() {
			for _, key := range append(l, more(p, -1)) {
				for _, c := range l[:3] {
					for _, s := range l[:3] {
						isCheck(t, api.Group{P: p, Q: q, G: of(1)}, key, api.Hash{}, api.Signature{C: c, S: s}, false)
					}
				}
			}
		}
	}
}

// P13.2: by Q 2, P less one is a key, and, where P is not prime, others may be; where P is 2, none is.
func TestCheckByTwo(t *testing.T) {
	r := rand.New(rand.NewSource(6))
	passed := 0
	for _, p := range modules() {
		for range 12 {
			g, h := api.Group{P: p, Q: of(2), G: exponent(r, p)}, anyHash(r)
			for _, key := range []api.Num{more(p, -1), exponent(r, p), of(1), of(4), of(11)} {
				for c := range uint64(3) {
					for s := range uint64(3) {
						if checkCheck(t, g, key, h, pair{c, s}.signature()) {
							passed++
						}
					}
				}
			}
		}
	}
	if passed < 100 {
		t.Errorf("%d passed", passed)
	}
}

// P13.2: by what is not prime: what is signed there passes just where the chapter's words have it so.
func TestCheckByMany(t *testing.T) {
	r := rand.New(rand.NewSource(7))
	passed, not := 0, 0
	for _, q := range orders() {
		for _, p := range append(modules(), more(q, 1)) {
			g, h := api.Group{P: p, Q: q}, anyHash(r)
			if !below(of(1), p) {
				continue
			}
			for _, n := range []api.Num{exponent(r, p), more(p, -1), of(1)} {
				g.G = n
				key, s := made(t, g, exponent(r, q), h, exponent(r, q))
				if checkCheck(t, g, key, h, s) {
					passed++
				} else {
					not++
				}
				checkCheck(t, g, more(p, -1), h, s)
			}
		}
	}
	if passed < 30 || not < 30 {
		t.Errorf("%d passed, %d did not", passed, not)
	}
}

// P13.2: H is not asked for.
func TestCheckAsksNotForH(t *testing.T) {
	r := rand.New(rand.NewSource(8))
	for _, g := range groupsThatMayBe() {
		h := anyHash(r)
		key, s := made(t, g, exponent(r, g.Q), h, exponent(r, g.Q))
		for _, n := range []api.Num{of(0), of(1), g.P, g.Q, g.G, key, highest()} {
			isCheck(t, api.Group{P: g.P, Q: g.Q, G: g.G, H: n}, key, h, s, true)
		}
	}
}
