package duals_test

import (
	"math"
	"math/rand"
	"slices"
	"testing"

	"balefire/api"
	"balefire/duals"
)

// P12.2: the chapter's Examples: 4^3, 4^5, 4^7 and 4^8 are 18, 12, 8 and 9.
func TestExamplesOfCheck(t *testing.T) {
	g := example()
	for n, want := range map[int64]uint64{3: 18, 5: 12, 7: 8, 8: 9} {
		if power(of(4), n, g.P) != of(want) {
			t.Fatal("the test's own numbers")
		}
	}
	isCheck(t, g, list(18, 12, 8), 2, true, api.OK)
	isCheck(t, g, list(18, 12, 9), 2, false, api.OK)
	isCheck(t, g, list(4), 2, false, api.ErrArg)
}

// P12.2: told by hand.
func TestCheckByHand(t *testing.T) {
	by23 := func(q uint64) api.Group { return api.Group{P: of(23), Q: of(q)} }
	by12, by2 := api.Group{P: of(12), Q: of(11)}, api.Group{P: of(2), Q: of(11)}
	for _, r := range []struct {
		g            api.Group
		v            []api.Num
		coefficients int
		want         bool
		wrong        api.Errno
	}{
		{example(), list(4), 1, true, 0}, {example(), list(5), 1, true, 0}, {example(), list(22), 1, true, 0},
		{example(), list(4, 4), 1, true, 0}, {example(), list(4, 9), 1, false, 0}, {example(), list(9, 4), 1, false, 0}, {example(), list(4, 9), 2, true, 0},
		// Not of the group: 5 to the power of 11 is 22, and of 22 likewise.
		{example(), list(5, 5), 1, false, 0}, {example(), list(22, 22), 1, false, 0}, {example(), list(5, 5), 2, true, 0}, {example(), list(1, 5), 1, false, 0},
		// 4^1, 4^2, 4^3, .., and 4^1, 4^4, 4^9, 4^16, ..
		{example(), list(4, 16, 18), 2, true, 0}, {example(), list(4, 16, 18), 1, false, 0}, {example(), list(4, 16, 18), 3, true, 0},
		{example(), list(4, 16, 18, 3, 12, 2, 8), 2, true, 0}, {example(), list(4, 16, 18, 3, 12, 2, 8), 1, false, 0},
		{example(), list(4, 3, 13, 12), 3, true, 0}, {example(), list(4, 3, 13, 12), 2, false, 0}, {example(), list(4, 3, 13, 12), 1, false, 0}, {example(), list(4, 3, 13), 2, false, 0},
		{example(), list(1, 1, 1, 1, 1, 1, 1), 1, true, 0}, {example(), list(1, 1, 1, 4, 1, 1, 1), 1, false, 0}, {example(), list(1, 1, 1, 4, 1, 1, 1), 6, false, 0}, {example(), list(1, 1, 1, 4, 1, 1, 1), 7, true, 0},
		// By the words 1 1; 2 2 2 and 2 1 0; 3 1.
		{by23(2), list(22, 22), 1, true, 0}, {by23(2), list(4, 6), 1, true, 0}, {by23(2), list(4, 9), 1, false, 0},
		{by23(3), list(1, 1, 22), 1, true, 0}, {by23(3), list(2, 3, 4), 2, true, 0}, {by23(3), list(2, 3, 4), 1, false, 0}, {by23(3), list(2, 3, 5), 2, false, 0},
		{by23(4), list(2, 15), 1, false, 0}, {by23(4), list(2, 3), 1, true, 0},
		// No inverse: but of as many coefficients as powers there is no word that would ask for one.
		{by23(2), list(4, 4, 4), 1, false, 7}, {by23(2), list(4, 4, 4), 2, false, 7}, {by23(2), list(4, 9, 5), 3, true, 0},
		{by23(4), list(1, 1, 1), 1, false, 7}, {by23(4), list(1, 1, 1), 3, true, 0},
		{by23(1), list(4, 4), 1, false, 1}, {by23(0), list(4, 4), 1, false, 1}, {by23(1), list(4, 4), 2, true, 0}, {by23(0), list(4), 1, true, 0},
		{by12, list(1, 1), 1, true, 0}, {by12, list(5, 5), 1, false, 0}, {by12, list(6, 6), 1, false, 0}, {by12, list(5, 7), 1, false, 0}, {by12, list(6, 8), 2, true, 0},
		{by2, list(1, 1, 1), 1, true, 0}, {by2, list(1, 2, 1), 1, false, 1},
		{api.Group{P: of(1), Q: of(11)}, list(1), 1, false, 1}, {api.Group{Q: of(11)}, list(1), 1, false, 1}, {api.Group{}, list(0), 1, false, 1},
		{example(), nil, 1, false, 1}, {example(), nil, 0, false, 1}, {example(), list(4, 4), 0, false, 1}, {example(), list(4, 4), 3, false, 1}, {example(), list(4, 4), -1, false, 1},
		{example(), list(4, 0), 1, false, 1}, {example(), list(23, 4), 1, false, 1}, {example(), list(4, 0), 2, false, 1}, {example(), list(1, 1, 1, 1, 1, 1, 1, 1), 2, false, 1},
	} {
		isCheck(t, r.g, r.v, r.coefficients, r.want, r.wrong)
	}
}

// P12.2: in whatever goes round, whether it is a group or not.
func TestCheckOfMany(t *testing.T) {
	r := rand.New(rand.NewSource(1))
	for _, q := range append(orders(), nothingGoesRound()...) {
		for many := 1; many <= api.MaxNodes; many++ {
			p := modules()[r.Intn(len(modules()))]
			for coefficients := range many + 2 {
				checkCheck(t, api.Group{P: p, Q: q}, may(r, p, many), coefficients)
				checkCheck(t, api.Group{P: of(23), Q: q}, slices.Repeat(list(1), many), coefficients)
			}
		}
	}
}

// P12.2: all powers of up to three nodes, also those that may not be multiplied, of as many coefficients as may be and as may not, by all small P and Q.
func TestCheckOfAllSmall(t *testing.T) {
	for p := range uint64(7) {
		for _, q := range list(0, 1, 2, 3, 4, 5, 6) {
			g := api.Group{P: of(p), Q: q}
			for coefficients := -1; coefficients <= 4; coefficients++ {
				checkCheck(t, g, nil, coefficients)
				for a := range p + 2 {
					checkCheck(t, g, list(a), coefficients)
					for b := range p + 2 {
						checkCheck(t, g, list(a, b), coefficients)
						for c := range p + 2 {
							checkCheck(t, g, list(a, b, c), coefficients)
						}
					}
				}
			}
		}
	}
}

// eachAsked: what Check lets be in groups that may be, by each number of nodes.
func eachAsked(seed int64, try func(g api.Group, v []api.Num)) {
	r := rand.New(rand.NewSource(seed))
	for _, g := range groupsThatMayBe() {
		for many := 1; many <= api.MaxNodes; many++ {
			try(g, may(r, g.P, many))
			try(g, slices.Repeat(list(1), many))
		}
	}
}

// P12.2: as many coefficients as may be, and no others, whether there are inverses or not.
func TestCheckHowManyCoefficients(t *testing.T) {
	eachAsked(2, func(g api.Group, v []api.Num) {
		for _, q := range append(list(0, 1, 2, 3, 4, 6), g.Q) {
			g.Q = q
			for coefficients := 1; coefficients <= len(v); coefficients++ {
				checkCheck(t, g, v, coefficients)
			}
			for _, coefficients := range append(outside(len(v)), api.MaxNodes+1) {
				isCheck(t, g, v, coefficients, false, api.ErrArg)
			}
		}
	})
}

// P12.2: as many powers as may be, and no others.
func TestCheckHowManyPowers(t *testing.T) {
	for _, g := range append(groupsThatMayBe(), api.Group{P: of(23), Q: of(4)}) {
		for _, many := range []int{0, api.MaxNodes + 1, api.MaxNodes + 2, 2 * api.MaxNodes, 64, 256, 257, 1 << 16} {
			v := slices.Repeat(list(1), many)
			for _, coefficients := range []int{-1, 0, 1, 2, api.MaxNodes, many - 1, many, many + 1, math.MaxInt, math.MinInt} {
				isCheck(t, g, v, coefficients, false, api.ErrArg)
			}
		}
	}
	for _, g := range groupsThatMayBe() {
		for many := 1; many <= api.MaxNodes; many++ {
			for coefficients := 1; coefficients <= many; coefficients++ {
				isCheck(t, g, slices.Repeat(list(1), many), coefficients, true, api.OK)
			}
		}
	}
}

// P12.2, R4: no power, whether there is a list or not, and room in it.
func TestCheckOfNoPower(t *testing.T) {
	for _, g := range append(groupsThatMayBe(), api.Group{}, api.Group{P: of(23)}, api.Group{Q: of(11)}) {
		for _, v := range [][]api.Num{nil, {}, make([]api.Num, 0, 5), list(4, 4)[:0]} {
			for coefficients := -1; coefficients <= api.MaxNodes; coefficients++ {
				isCheck(t, g, v, coefficients, false, api.ErrArg)
			}
		}
	}
}

// P12.2: of as many coefficients as powers there is no polynomial, and all that may be multiplied passes.
func TestCheckOfAsManyCoefficients(t *testing.T) {
	r := rand.New(rand.NewSource(3))
	for _, q := range append(orders(), nothingGoesRound()...) {
		for _, p := range modules() {
			for many := 1; many <= api.MaxNodes; many++ {
				isCheck(t, api.Group{P: p, Q: q}, may(r, p, many), many, true, api.OK)
			}
		}
	}
}

// P12.2: in each place by itself a power that may not be multiplied, and those at both ends of what may be.
func TestCheckOfAPowerThatMayNotBe(t *testing.T) {
	eachAsked(4, func(g api.Group, v []api.Num) {
		for i := range v {
			for coefficients := 1; coefficients <= len(v); coefficients++ {
				for _, w := range append(tooGreat(g.P), of(0)) {
					isCheck(t, g, with(v, i, w), coefficients, false, api.ErrArg)
				}
				checkCheck(t, g, with(v, i, of(1)), coefficients)
				checkCheck(t, g, with(v, i, more(g.P, -1)), coefficients)
			}
		}
	})
}

// P12.2: a power that may not be multiplied is told also where it would be raised to the power of 0, or would not be asked, as another one does not pass: by 3, the words of 1, 2, 3 are 2 2 2 and 2 1 0.
func TestCheckOfAPowerThatDoesNotCount(t *testing.T) {
	g := api.Group{P: of(23), Q: of(3)}
	for _, w := range append(tooGreat(g.P), of(0)) {
		for _, v := range [][]api.Num{{of(4), of(6), w}, {w, of(4), of(9)}, {of(4), of(9), w}} {
			for coefficients := 1; coefficients <= 3; coefficients++ {
				isCheck(t, g, v, coefficients, false, api.ErrArg)
			}
		}
	}
}

// P12.2: by P 0 and 1 no power may be multiplied; by 2, 1 alone.
func TestCheckBySmallP(t *testing.T) {
	for many := 1; many <= api.MaxNodes; many++ {
		for coefficients := 1; coefficients <= many; coefficients++ {
			for _, n := range []api.Num{of(0), of(1), of(2), highest()} {
				for _, p := range list(0, 1) {
					isCheck(t, api.Group{P: p, Q: of(11)}, slices.Repeat([]api.Num{n}, many), coefficients, false, api.ErrArg)
				}
				checkCheck(t, api.Group{P: of(2), Q: of(11)}, slices.Repeat([]api.Num{n}, many), coefficients)
			}
		}
	}
}

// P12.2: by Q that is no more than the nodes, a difference goes round to 0; by one above them, and no other number in common, none does.
func TestCheckByAQNearTheNodes(t *testing.T) {
	r := rand.New(rand.NewSource(5))
	for _, q := range list(2, 3, 5, 7, 11) {
		g := api.Group{P: near(255, -19), Q: q}
		for many := 1; many <= api.MaxNodes; many++ {
			for coefficients := 1; coefficients < many; coefficients++ {
				v := may(r, g.P, many)
				checkCheck(t, g, v, coefficients)
				if bigOf(q).Int64() < int64(many) {
					isCheck(t, g, v, coefficients, false, api.ErrNone)
				} else {
					isCheck(t, g, slices.Repeat(list(1), many), coefficients, true, api.OK)
				}
			}
		}
	}
}

// P12.2: by Q that is not prime, whether there are inverses or not; which is seen often enough.
func TestCheckByWhatIsNotPrime(t *testing.T) {
	r := rand.New(rand.NewSource(6))
	fine, none := 0, 0
	for _, q := range append(list(4, 6, 8, 9, 10, 15, 25, 35, 49, 77, 143, 30030), near(64, 0), near(255, 0), highest(), ofTwoGreat()) {
		for many := 1; many <= api.MaxNodes; many++ {
			for coefficients := 1; coefficients < many; coefficients++ {
				g := api.Group{P: near(255, -19), Q: q}
				v := may(r, g.P, many)
				checkCheck(t, g, v, coefficients)
				if allHaveInverses(q, many) {
					fine++
					isCheck(t, g, slices.Repeat(list(1), many), coefficients, true, api.OK)
				} else {
					none++
					isCheck(t, g, v, coefficients, false, api.ErrNone)
				}
			}
		}
	}
	if fine < 100 || none < 100 {
		t.Errorf("%d had inverses, %d did not", fine, none)
	}
}

// P12.2, R2: whatever else is wrong is told ahead of what has no inverse; and that ahead of whether the powers pass.
func TestCheckTellsWhatIsWrongFirst(t *testing.T) {
	g := api.Group{P: of(23), Q: of(4)}
	for _, v := range [][]api.Num{list(1, 1, 1), list(5, 7, 9), list(4, 4, 4)} {
		isCheck(t, g, v, 1, false, api.ErrNone)
		isCheck(t, g, v, 2, false, api.ErrNone)
		for _, coefficients := range outside(len(v)) {
			isCheck(t, g, v, coefficients, false, api.ErrArg)
		}
		for i := range v {
			for _, w := range append(tooGreat(g.P), of(0)) {
				isCheck(t, g, with(v, i, w), 1, false, api.ErrArg)
			}
		}
		isCheck(t, api.Group{P: of(1), Q: of(4)}, v, 1, false, api.ErrArg)
		isCheck(t, api.Group{P: of(23), Q: of(1)}, v, 1, false, api.ErrArg)
		isCheck(t, api.Group{P: of(23)}, v, 1, false, api.ErrArg)
	}
}

// P12.2: neither G nor H is asked, nor whether powers are of the group.
func TestCheckAsksForPAndQAlone(t *testing.T) {
	eachAsked(7, func(g api.Group, v []api.Num) {
		coefficients := 1 + len(v)/3
		want, wrong := pass(g, v, coefficients)
		for _, n := range []api.Num{of(0), of(1), g.P, g.Q, highest()} {
			for _, other := range []api.Group{{P: g.P, Q: g.Q, G: n, H: n}, {P: g.P, Q: g.Q, G: n, H: g.H}, {P: g.P, Q: g.Q, G: g.G, H: n}} {
				isCheck(t, other, v, coefficients, want, wrong)
			}
		}
	})
}

// P12.2: the error of the words is that of Word for the first polynomial, 1.
func TestCheckTellsTheWordsError(t *testing.T) {
	seen := map[api.Errno]int{}
	for _, q := range append(orders(), nothingGoesRound()...) {
		for many := 2; many <= api.MaxNodes; many++ {
			g := api.Group{P: of(23), Q: q}
			_, want := duals.Word(g, many, list(1))
			for coefficients := 1; coefficients < many; coefficients++ {
				isCheck(t, g, slices.Repeat(list(1), many), coefficients, want == api.OK, want)
			}
			seen[want]++
		}
	}
	if len(seen) != 3 {
		t.Errorf("errors: %v", seen)
	}
}

// P12.2: of the polynomials 1, x, .. each is asked, also where all other ones let be: powers of the values of x to the power of i pass all but the last that is asked.
func TestCheckAsksEachPolynomial(t *testing.T) {
	for _, g := range groupsThatMayBe() {
		for many := 2; many <= api.MaxNodes; many++ {
			for degree := range many {
				v := raised(t, g, g.G, valuesOf(t, g, powerOfX(degree), many))
				for coefficients := 1; coefficients <= many; coefficients++ {
					isCheck(t, g, v, coefficients, coefficients > degree, api.OK)
				}
			}
		}
	}
}
