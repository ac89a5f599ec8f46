package shares_test

import (
	"math"
	"math/rand"
	"slices"
	"testing"

	"balefire/api"
	"balefire/polys"
	"balefire/scalars"
	"balefire/shares"
)

// P11.2: the chapter's Examples: 4^3 and 4^7 are 18 and 8; 4^10 and 4^8 are 6 and 9.
func TestExampleOfRaise(t *testing.T) {
	g := example()
	if power(of(4), 3, g.P) != of(18) || power(of(4), 7, g.P) != of(8) {
		t.Fatal("the test's own numbers")
	}
	isRaise(t, g, []int{0, 2}, list(18, 8), 2, list(6, 9), api.OK)
}

// P11.2: told by hand, in the Examples' group unless another one is named.
func TestRaiseByHand(t *testing.T) {
	four, even := api.Group{P: of(23), Q: of(4)}, api.Group{P: of(12), Q: of(11)}
	for _, r := range []struct {
		g      api.Group
		at     []int
		powers []api.Num
		many   int
		want   []api.Num
		wrong  api.Errno
	}{
		{example(), []int{0, 2}, list(18, 8), 1, list(6), 0},
		{example(), []int{2, 0}, list(8, 18), 2, list(6, 9), 0},
		{example(), []int{0}, list(18), 3, list(18, 18, 18), 0},
		{example(), []int{6}, list(18), 1, list(18), 0},
		{example(), []int{0, 1}, list(1, 1), 3, list(1, 1, 1), 0},
		// The weights of 1 and 2 are 3 and 9 at -1, 4 and 8 at -2, 5 and 7 at -3.
		{example(), []int{0, 1}, list(4, 1), 3, list(18, 3, 12), 0},
		{example(), []int{0, 1}, list(1, 4), 3, list(13, 9, 8), 0},
		{example(), []int{0, 1}, list(5, 1), 3, list(10, 4, 20), 0},
		{example(), []int{0, 1}, list(22, 22), 3, list(1, 1, 1), 0},
		{even, []int{0, 1}, list(6, 1), 3, list(0, 0, 0), 0},
		{even, []int{0, 1}, list(5, 7), 3, list(11, 1, 11), 0},
		{four, []int{0}, list(3), 2, list(3, 3), 0},
		{four, []int{0, 1}, list(3, 5), 3, list(8, 5, 3), 0},
		{four, []int{0, 2}, list(3, 5), 3, nil, 7},
		{four, []int{0, 4}, list(3, 5), 3, nil, 1},
		{api.Group{P: of(23), Q: of(2)}, []int{0, 1}, list(4, 9), 3, list(4, 9, 4), 0},
		{api.Group{P: of(23), Q: of(2)}, []int{0, 2}, list(4, 9), 3, nil, 1},
		{api.Group{P: of(23), Q: of(1)}, []int{0}, list(4), 1, nil, 1},
		{api.Group{P: of(23)}, []int{0}, list(4), 1, nil, 1},
		{api.Group{P: of(1), Q: of(11)}, []int{0}, list(1), 1, nil, 1},
		{api.Group{Q: of(11)}, []int{0}, list(1), 1, nil, 1},
		{api.Group{P: of(2), Q: of(11)}, []int{0, 3}, list(1, 1), 2, list(1, 1), 0},
		{example(), nil, nil, 1, nil, 1},
		{example(), []int{0, 7}, list(4, 4), 1, nil, 1},
		{example(), []int{0, -1}, list(4, 4), 1, nil, 1},
		{example(), []int{3, 3}, list(4, 4), 1, nil, 1},
		{example(), []int{0, 1}, list(4), 1, nil, 1},
		{example(), []int{0, 1}, list(4, 0), 1, nil, 1},
		{example(), []int{0, 1}, list(4, 23), 1, nil, 1},
		{example(), []int{0, 1}, list(4, 9), 0, nil, 1},
		{example(), []int{0, 1}, list(4, 9), 4, nil, 1},
	} {
		isRaise(t, r.g, r.at, r.powers, r.many, r.want, r.wrong)
	}
}

// places: so many unlike ones.
func places(r *rand.Rand, many int) []int { return r.Perm(api.MaxNodes)[:many] }

// modules: numbers by which products go round, prime or not.
func modules() []api.Num {
	return append(list(2, 3, 4, 12, 23, 30030, 4294967291, most), near(64, 0), near(127, -1), near(255, -19), near(255, 0), highest())
}

// may: so many numbers that may be multiplied.
func may(r *rand.Rand, p api.Num, many int) []api.Num {
	var l []api.Num
	for _, n := range some(r, more(p, -1), many) {
		l = append(l, more(n, 1))
	}
	return l
}

// P11.2: in whatever goes round, whether it is a group or not.
func TestRaiseOfMany(t *testing.T) {
	r := rand.New(rand.NewSource(1))
	for _, q := range orders() {
		for many := 1; many <= api.MaxNodes; many++ {
			for range 3 {
				p := modules()[r.Intn(len(modules()))]
				checkRaise(t, api.Group{P: p, Q: q}, places(r, many), may(r, p, many), 1+r.Intn(api.MaxSecrets))
			}
		}
	}
	for _, g := range groupsThatMayBe() {
		for many := 1; many <= api.MaxNodes; many++ {
			for secrets := 1; secrets <= api.MaxSecrets; secrets++ {
				checkRaise(t, g, places(r, many), may(r, g.P, many), secrets)
			}
		}
	}
}

// P11.2: all lists of one place, of two and of three, also those that may not be, by small numbers and by a great one.
func TestRaiseOfAllPlaces(t *testing.T) {
	for _, q := range append(list(0, 1, 2, 3, 4, 5, 6, 7, 8, 9, 10, 15), near(127, -1)) {
		g := api.Group{P: of(23), Q: q}
		for a := -1; a <= api.MaxNodes; a++ {
			checkRaise(t, g, []int{a}, list(5), 3)
			for b := -1; b <= api.MaxNodes; b++ {
				checkRaise(t, g, []int{a, b}, list(5, 7), 3)
				for c := -1; c <= api.MaxNodes; c++ {
					checkRaise(t, g, []int{a, b, c}, list(5, 7, 11), 1)
				}
			}
		}
	}
}

// P11.2: all powers of two places, also those that may not be multiplied, by all small P.
func TestRaiseOfAllSmallPowers(t *testing.T) {
	for p := range uint64(8) {
		for a := range p + 2 {
			for b := range p + 2 {
				for _, q := range list(2, 3, 5, 9) {
					checkRaise(t, api.Group{P: of(p), Q: q}, []int{0, 1}, list(a, b), 3)
				}
			}
		}
	}
}

// asked: what Raise lets be in a group, for so many places.
type asked struct {
	g      api.Group
	at     []int
	powers []api.Num
}

func eachAsked(seed int64, try func(a asked)) {
	r := rand.New(rand.NewSource(seed))
	for _, g := range groupsThatMayBe() {
		for many := 1; many <= api.MaxNodes; many++ {
			try(asked{g, places(r, many), may(r, g.P, many)})
		}
	}
}

// P11.2: so many secrets as may be, and no others.
func TestRaiseHowManySecrets(t *testing.T) {
	eachAsked(2, func(a asked) {
		for many := 1; many <= api.MaxSecrets; many++ {
			checkRaise(t, a.g, a.at, a.powers, many)
		}
		for _, many := range append(outside(api.MaxSecrets), api.MaxNodes) {
			isRaise(t, a.g, a.at, a.powers, many, nil, api.ErrArg)
		}
	})
}

// P11.2, R4: no place, whether there is a list or not, and room in it, with powers and without.
func TestRaiseOfNoPlace(t *testing.T) {
	for _, g := range append(groupsThatMayBe(), api.Group{}, api.Group{P: of(23)}, api.Group{Q: of(11)}) {
		for _, at := range [][]int{nil, {}, make([]int, 0, 5)} {
			for _, powers := range [][]api.Num{nil, {}, make([]api.Num, 0, 5), list(4), list(4, 9)} {
				for many := range api.MaxSecrets + 2 {
					isRaise(t, g, at, powers, many, nil, api.ErrArg)
				}
			}
		}
	}
}

// P11.2: as many powers as places; one fewer, one more, none, many more.
func TestRaiseOfOthersThanAsMany(t *testing.T) {
	eachAsked(3, func(a asked) {
		checkRaise(t, a.g, a.at, a.powers, 2)
		for _, l := range [][]api.Num{nil, a.powers[1:], a.powers[:len(a.powers)-1], append(slices.Clone(a.powers), of(1)), append(list(1), a.powers...), slices.Repeat(a.powers, 2), make([]api.Num, 100)} {
			isRaise(t, a.g, a.at, l, 2, nil, api.ErrArg)
		}
		isRaise(t, a.g, a.at[1:], a.powers, 2, nil, api.ErrArg)
		isRaise(t, a.g, nil, a.powers, 2, nil, api.ErrArg)
	})
}

// P11.2: in each place of the list by itself a place that may not be, near and far, and those at both ends.
func TestRaiseOfAPlaceThatMayNotBe(t *testing.T) {
	eachAsked(4, func(a asked) {
		for i := range a.at {
			for _, far := range outside(api.MaxNodes) {
				if far != 0 {
					isRaise(t, a.g, with(a.at, i, far), a.powers, 1, nil, api.ErrArg)
				}
			}
			isRaise(t, a.g, with(a.at, i, api.MaxNodes), a.powers, 1, nil, api.ErrArg)
			checkRaise(t, a.g, with(a.at, i, 0), a.powers, 1)
			checkRaise(t, a.g, with(a.at, i, api.MaxNodes-1), a.powers, 1)
		}
		isRaise(t, a.g, append(slices.Clone(a.at), math.MaxInt), append(slices.Clone(a.powers), of(1)), 1, nil, api.ErrArg)
	})
}

// P11.2: any two of the places alike, side by side or far from one another, with powers that are alike and that are not.
func TestRaiseOfAPlaceTwice(t *testing.T) {
	eachAsked(5, func(a asked) {
		for i := range a.at {
			for k := range a.at {
				if i != k {
					isRaise(t, a.g, with(a.at, i, a.at[k]), a.powers, 1, nil, api.ErrArg)
					isRaise(t, a.g, with(a.at, i, a.at[k]), with(a.powers, i, a.powers[k]), 1, nil, api.ErrArg)
				}
			}
			isRaise(t, a.g, append(slices.Clone(a.at), a.at[i]), append(slices.Clone(a.powers), of(1)), 1, nil, api.ErrArg)
		}
	})
	// More than there are may not be unlike.
	for many := api.MaxNodes + 1; many < 40; many++ {
		at := make([]int, many)
		for i := range at {
			at[i] = i % api.MaxNodes
		}
		isRaise(t, example(), at, slices.Repeat(list(4), many), 1, nil, api.ErrArg)
	}
}

// P11.2: in each place by itself a power that may not be multiplied, and those at both ends of what may be.
func TestRaiseOfAPowerThatMayNotBe(t *testing.T) {
	eachAsked(6, func(a asked) {
		for i := range a.powers {
			for _, w := range append(tooGreat(a.g.P), of(0)) {
				isRaise(t, a.g, a.at, with(a.powers, i, w), 1, nil, api.ErrArg)
				isRaise(t, a.g, a.at, with(a.powers, i, w), api.MaxSecrets, nil, api.ErrArg)
			}
			checkRaise(t, a.g, a.at, with(a.powers, i, of(1)), api.MaxSecrets)
			checkRaise(t, a.g, a.at, with(a.powers, i, more(a.g.P, -1)), api.MaxSecrets)
		}
	})
}

// P11.2: a power that may not be multiplied is told also where it would be raised to the power of 0: by 2, the weights of the nodes' points 1 and 2 are 1 and 0 at -1.
func TestRaiseOfAPowerThatDoesNotCount(t *testing.T) {
	g := api.Group{P: of(23), Q: of(2)}
	isRaise(t, g, []int{0, 1}, list(4, 9), 1, list(4), api.OK)
	for _, w := range append(tooGreat(g.P), of(0)) {
		isRaise(t, g, []int{0, 1}, []api.Num{of(4), w}, 1, nil, api.ErrArg)
	}
}

// P11.2: by P 0 and 1 no power may be multiplied.
func TestRaiseByNoughtAndOne(t *testing.T) {
	for _, p := range list(0, 1) {
		for _, n := range []api.Num{of(0), of(1), of(2), highest()} {
			for many := range 4 {
				at := make([]int, many)
				for i := range at {
					at[i] = i
				}
				isRaise(t, api.Group{P: p, Q: of(11)}, at, slices.Repeat([]api.Num{n}, many), 1, nil, api.ErrArg)
			}
		}
	}
}

// P11.2: by a Q of no more than the places any two may be one exponent: ErrArg; and a secret's point may be a node's: that power is told as it is.
func TestRaiseByASmallQ(t *testing.T) {
	for q := range 2 * api.MaxNodes {
		g := api.Group{P: of(23), Q: of(uint64(q))}
		for a := range api.MaxNodes {
			for b := range api.MaxNodes {
				checkRaise(t, g, []int{a, b}, list(5, 7), 3)
				if q > 0 && (a-b)%q == 0 {
					isRaise(t, g, []int{a, b}, list(5, 7), 3, nil, api.ErrArg)
				}
			}
		}
	}
	for _, q := range []int{5, 7} {
		for secret := 1; secret <= api.MaxSecrets; secret++ {
			// One node's point is the secret's.
			at, powers := []int{q - secret - 1, (q - secret) % q}, list(20, 7)
			l, e := shares.Raise(api.Group{P: of(23), Q: of(uint64(q))}, at, powers, secret)
			if e != api.OK || len(l) != secret || l[secret-1] != powers[0] {
				t.Errorf("Raise by %d at %d: %d, %d", q, at, l, e)
			}
		}
	}
}

// P11.2: where a difference has no inverse, ErrNone; where each has one, the product, though Q is not prime.
func TestRaiseByWhatIsNotPrime(t *testing.T) {
	r := rand.New(rand.NewSource(7))
	none, fine := 0, 0
	for _, q := range append(list(8, 9, 10, 12, 14, 15, 25, 35, 49, 77, 143, 30030), near(64, 0), near(255, 0), highest(), ofTwoGreat()) {
		for range 60 {
			many := 1 + r.Intn(4)
			g := api.Group{P: near(255, -19), Q: q}
			at, powers := places(r, many), may(r, g.P, many)
			checkRaise(t, g, at, powers, 1+r.Intn(api.MaxSecrets))
			if meet(q, at) {
				continue
			}
			if allHaveInverses(q, at) {
				fine++
			} else {
				none++
				isRaise(t, g, at, powers, 1, nil, api.ErrNone)
			}
		}
	}
	if none < 100 || fine < 100 {
		t.Errorf("%d had no inverse, %d did", none, fine)
	}
}

// P11.2, R2: where there is no inverse, whatever else is wrong is told first; so are points that meet.
func TestRaiseTellsWhatIsWrongFirst(t *testing.T) {
	g := api.Group{P: of(23), Q: of(4)}
	isRaise(t, g, []int{0, 2}, list(5, 7), 1, nil, api.ErrNone)
	for _, many := range outside(api.MaxSecrets) {
		isRaise(t, g, []int{0, 2}, list(5, 7), many, nil, api.ErrArg)
	}
	for _, w := range append(tooGreat(g.P), of(0)) {
		isRaise(t, g, []int{0, 2}, []api.Num{of(5), w}, 1, nil, api.ErrArg)
		isRaise(t, g, []int{0, 2}, []api.Num{w, of(5)}, 1, nil, api.ErrArg)
	}
	isRaise(t, g, []int{0, 2}, list(5), 1, nil, api.ErrArg)
	isRaise(t, g, []int{0, 2}, list(5, 7, 9), 1, nil, api.ErrArg)
	isRaise(t, g, []int{0, 2, 2}, list(5, 7, 9), 1, nil, api.ErrArg)
	isRaise(t, g, []int{0, 2, 7}, list(5, 7, 9), 1, nil, api.ErrArg)
	isRaise(t, g, []int{0, 2, -1}, list(5, 7, 9), 1, nil, api.ErrArg)
	isRaise(t, g, []int{0, 2, 4}, list(5, 7, 9), 1, nil, api.ErrArg)
	isRaise(t, g, []int{4, 2, 0}, list(5, 7, 9), 1, nil, api.ErrArg)
	isRaise(t, g, []int{0, 2, 1}, list(5, 7, 9), 1, nil, api.ErrNone)
	isRaise(t, api.Group{P: of(1), Q: of(4)}, []int{0, 2}, list(5, 7), 1, nil, api.ErrArg)
}

// P11.2: neither G nor H is asked, nor whether powers are of the group.
func TestRaiseAsksForPAndQAlone(t *testing.T) {
	r := rand.New(rand.NewSource(8))
	for _, g := range groupsThatMayBe() {
		at, powers := places(r, 4), may(r, g.P, 4)
		for _, n := range []api.Num{of(0), of(1), g.P, g.Q, highest()} {
			checkRaise(t, api.Group{P: g.P, Q: g.Q, G: n, H: n}, at, powers, 3)
			checkRaise(t, api.Group{P: g.P, Q: g.Q, G: n, H: g.H}, at, powers, 3)
			checkRaise(t, api.Group{P: g.P, Q: g.Q, G: g.G, H: n}, at, powers, 3)
		}
	}
}

// P11.2: the error of the weights is that of polys.Weights at the points of the chapter's words.
func TestRaiseTellsTheWeightsError(t *testing.T) {
	r := rand.New(rand.NewSource(9))
	seen := map[api.Errno]int{}
	for _, q := range append(orders(), nothingGoesRound()...) {
		for range 20 {
			g, at := api.Group{P: of(23), Q: q}, places(r, 1+r.Intn(4))
			var points []api.Num
			for _, place := range at {
				points = append(points, scalars.Of(g, int64(place)+1))
			}
			_, want := polys.Weights(g, points, scalars.Of(g, -1))
			l, e := shares.Raise(g, at, may(r, g.P, len(at)), 1)
			if e != want || (e == api.OK) != (len(l) == 1) {
				t.Errorf("Raise by %x at %d: %x, %d, not %d", q, at, l, e, want)
			}
			seen[e]++
		}
	}
	if len(seen) != 3 {
		t.Errorf("errors: %v", seen)
	}
}
