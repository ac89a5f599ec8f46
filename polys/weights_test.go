package polys_test

import (
	"math/big"
	"math/rand"
	"slices"
	"testing"

	"balefire/api"
)

// P10.2: the chapter's Examples.
func TestExamplesOfWeights(t *testing.T) {
	isWeights(t, by(of(11)), list(1, 2), of(0), list(2, 10), api.OK)
	isWeights(t, by(of(11)), list(1, 1), of(0), nil, api.ErrArg)
	isWeights(t, by(of(11)), nil, of(0), nil, api.ErrArg)
}

// P10.2: told by hand, by a Q of one word and of four, prime and not.
func TestWeightsByHand(t *testing.T) {
	for _, r := range []struct {
		q      api.Num
		points []api.Num
		x      api.Num
		want   []api.Num
		wrong  api.Errno
	}{
		{of(11), list(2, 1), of(0), list(10, 2), 0},
		{of(11), list(1, 2), of(3), list(10, 2), 0},
		{of(11), list(1, 2, 3), of(0), list(3, 8, 1), 0},
		{of(11), list(1, 2, 3), of(4), list(1, 8, 3), 0},
		{of(11), list(1, 2, 3), of(2), list(0, 1, 0), 0},
		{of(11), list(0, 10), of(0), list(1, 0), 0},
		{of(11), list(0, 10), of(5), list(6, 6), 0},
		{of(11), list(7), of(7), list(1), 0},
		{of(11), list(0), of(10), list(1), 0},
		{of(2), list(0, 1), of(0), list(1, 0), 0},
		{of(2), list(0, 1), of(1), list(0, 1), 0},
		{of(3), list(0, 1, 2), of(2), list(0, 0, 1), 0},
		{of(6), list(0, 1), of(3), list(4, 3), 0},
		{of(4), list(0, 1), of(2), list(3, 2), 0},
		{of(9), list(0, 1), of(3), list(7, 3), 0},
		{of(15), list(0, 1, 2), of(3), list(1, 12, 3), 0},
		{of(4), list(0, 2), of(0), nil, 7},
		{of(6), list(0, 3), of(1), nil, 7},
		{of(6), list(0, 1, 2), of(1), nil, 7},
		{highest(), list(0, 1), of(2), []api.Num{near(256, -2), of(2)}, 0},
		{highest(), list(0, 2), of(1), []api.Num{near(255, 0), near(255, 0)}, 0},
		{highest(), list(0, 3), of(1), nil, 7},
		{of(11), list(11), of(0), nil, 1},
		{of(11), list(0), of(11), nil, 1},
		{of(1), list(0), of(0), nil, 1},
		{of(0), list(0), of(0), nil, 1},
	} {
		isWeights(t, by(r.q), r.points, r.x, r.want, r.wrong)
	}
}

// P10.2, R4: none are no points, whether there is a list or not, and room in it.
func TestWeightsOfNoPoints(t *testing.T) {
	for _, points := range [][]api.Num{nil, {}, make([]api.Num, 0, 5), list(1, 2)[:0]} {
		for _, q := range append(orders(), nothingGoesRound()...) {
			for _, x := range []api.Num{of(0), of(1), more(q, -1), q, highest()} {
				isWeights(t, by(q), points, x, nil, api.ErrArg)
			}
		}
	}
}

// P10.2: of one point it is 1, there and elsewhere.
func TestWeightsOfOnePoint(t *testing.T) {
	for _, q := range orders() {
		for _, point := range ends(q) {
			for _, x := range ends(q) {
				isWeights(t, by(q), []api.Num{point}, x, list(1), api.OK)
			}
		}
	}
}

// P10.2: of two, what x is less the other one, by what they are less each other; prime or not.
func TestWeightsOfTwoPoints(t *testing.T) {
	for _, q := range orders() {
		for _, a := range ends(q) {
			for _, b := range ends(q) {
				apart := new(big.Int).ModInverse(new(big.Int).Mod(less(a, b), bigOf(q)), bigOf(q))
				for _, x := range ends(q) {
					if a == b {
						isWeights(t, by(q), []api.Num{a, b}, x, nil, api.ErrArg)
					} else if apart == nil {
						isWeights(t, by(q), []api.Num{a, b}, x, nil, api.ErrNone)
					} else {
						one, two := less(x, b), less(a, x)
						want := []api.Num{rest(one.Mul(one, apart), q), rest(two.Mul(two, apart), q)}
						isWeights(t, by(q), []api.Num{a, b}, x, want, api.OK)
					}
				}
			}
		}
	}
}

// P10.2: at one of the points its own weight is 1, and each other one 0.
func TestWeightsAtAPoint(t *testing.T) {
	r := rand.New(rand.NewSource(1))
	for _, q := range primes() {
		for many := 1; many < 9; many++ {
			points := unlike(r, q, many)
			for i, x := range points {
				isWeights(t, by(q), points, x, with(make([]api.Num, len(points)), i, of(1)), api.OK)
			}
		}
	}
}

// P10.2: of few and of many points, at others and at them.
func TestWeightsOfMany(t *testing.T) {
	r := rand.New(rand.NewSource(2))
	for _, q := range orders() {
		for many := 1; many < 9; many++ {
			points := unlike(r, q, many)
			for _, x := range append(append(ends(q), some(r, q, 2)...), points[0]) {
				checkWeights(t, by(q), points, x)
			}
		}
	}
	for _, q := range []api.Num{of(257), near(255, -19), near(256, -189), ofTwoGreat()} {
		points := unlike(r, q, 60)
		checkWeights(t, by(q), points, some(r, q, 1)[0])
		checkWeights(t, by(q), points, points[59])
	}
}

// P10.2: all exponents there are may be points; their weights at each are told by which it is.
func TestWeightsOfAllExponents(t *testing.T) {
	for _, q := range []uint64{2, 3, 5, 7, 11, 23} {
		var points []api.Num
		for n := range q {
			points = append(points, of(q-1-n))
		}
		for i, x := range points {
			isWeights(t, by(of(q)), points, x, with(make([]api.Num, q), i, of(1)), api.OK)
		}
		isWeights(t, by(of(q)), append(points, of(0)), of(0), nil, api.ErrArg)
	}
}

// P10.2: whatever is small: all numbers, all places, also those that may not be.
func TestWeightsOfSmallOnes(t *testing.T) {
	for q := range uint64(10) {
		for many := range 4 {
			for _, points := range lists(many, q+1) {
				for x := range q + 2 {
					checkWeights(t, by(of(q)), points, of(x))
				}
			}
		}
	}
}

// eachTwo: the places of two of so many, in either order.
func eachTwo(many int, try func(i, k int)) {
	for i := range many {
		for k := range many {
			if i != k {
				try(i, k)
			}
		}
	}
}

// P10.2, R2: two alike, wherever they stand; no point is asked as often as it is there.
func TestWeightsOfPointsThatAreAlike(t *testing.T) {
	r := rand.New(rand.NewSource(3))
	for _, q := range orders() {
		for many := 2; many < 6; many++ {
			points := unlike(r, q, many)
			eachTwo(len(points), func(i, k int) {
				for _, x := range []api.Num{of(0), points[i], points[k], more(q, -1)} {
					isWeights(t, by(q), with(points, i, points[k]), x, nil, api.ErrArg)
				}
			})
			isWeights(t, by(q), slices.Repeat(points, 2), of(1), nil, api.ErrArg)
			isWeights(t, by(q), slices.Repeat([]api.Num{of(1)}, many), of(1), nil, api.ErrArg)
		}
	}
}

// P10.2, R2: in each place by itself, and in x, what is not below Q.
func TestWeightsOfWhatIsNotBelow(t *testing.T) {
	r := rand.New(rand.NewSource(4))
	for _, q := range orders() {
		for many := 1; many < 6; many++ {
			points := unlike(r, q, many)
			for _, great := range tooGreat(q) {
				for i := range points {
					for _, x := range []api.Num{of(0), of(1), more(q, -1), great} {
						isWeights(t, by(q), with(points, i, great), x, nil, api.ErrArg)
					}
				}
				isWeights(t, by(q), points, great, nil, api.ErrArg)
			}
			checkWeights(t, by(q), points, of(1))
		}
	}
}

// P10.2: what is above Q is not one that goes round: it is no other name of a point.
func TestWeightsDontGoRound(t *testing.T) {
	g := by(of(11))
	isWeights(t, g, list(1, 13), of(0), nil, api.ErrArg)
	isWeights(t, g, list(12, 2), of(0), nil, api.ErrArg)
	isWeights(t, g, list(1, 2), of(22), nil, api.ErrArg)
	q := api.Num{5, 5, 5, 5}
	for i := range q {
		above, below := q, q
		above[i]++
		below[i]--
		for _, a := range []api.Num{above, below} {
			checkWeights(t, by(q), []api.Num{of(1), a}, of(2))
			checkWeights(t, by(q), list(1, 3), a)
		}
	}
}

// P10.2, R2: by 0 and by 1 there are no points.
func TestWeightsByNoughtAndOne(t *testing.T) {
	for _, q := range nothingGoesRound() {
		for _, points := range [][]api.Num{nil, list(0), list(1), list(0, 1), list(0, 0), {highest()}, {of(2), highest()}} {
			for _, x := range []api.Num{of(0), of(1), of(2), highest()} {
				isWeights(t, by(q), points, x, nil, api.ErrArg)
			}
		}
	}
}

// P10.2: by a Q that is not prime, any two points alone whose difference has no inverse.
func TestWeightsWhereThereIsNoInverse(t *testing.T) {
	q := of(11 * 13)
	points := list(1, 2, 3, 5, 8)
	isAll := func(l []api.Num, wrong api.Errno) {
		for _, x := range []uint64{0, 1, 2, 8, 9, 11, 13, 142} {
			want, told := weights(q, l, of(x))
			if told != wrong {
				t.Errorf("of %d at %d: %d", l, x, told)
			}
			isWeights(t, by(q), l, of(x), want, wrong)
		}
	}
	isAll(points, api.OK)
	refused := 0
	eachTwo(len(points), func(i, k int) {
		for _, apart := range []int64{11, -11, 13, -13, 55, 26} {
			l := with(points, i, rest(big.NewInt(int64(points[k][0])+apart), q))
			// The other ones stay as they are: it is that difference, and no other one.
			if allHaveInverses(q, slices.Delete(slices.Clone(l), i, i+1)) && allHaveInverses(q, slices.Delete(slices.Clone(l), k, k+1)) {
				isAll(l, api.ErrNone)
				refused++
			}
		}
	})
	if refused < 60 {
		t.Errorf("only %d were refused", refused)
	}
	isAll(list(0, 11), api.ErrNone)
	isAll(list(0, 130), api.ErrNone)
	isAll(list(1, 12, 14, 25), api.ErrNone)
}

// P10.2: of great ones, too; none of what is in common with Q needs to be small.
func TestWeightsByAProductOfGreatPrimes(t *testing.T) {
	q := ofTwoGreat()
	for _, factor := range []api.Num{near(127, -1), near(128, -159)} {
		isWeights(t, by(q), []api.Num{of(5), more(factor, 5)}, of(0), nil, api.ErrNone)
		isWeights(t, by(q), []api.Num{of(5), of(6), more(factor, 6)}, of(5), nil, api.ErrNone)
		isWeights(t, by(q), []api.Num{more(factor, 6), of(9), of(6)}, of(9), nil, api.ErrNone)
		isWeights(t, by(q), []api.Num{of(5), more(factor, 5), of(5)}, of(0), nil, api.ErrArg)
		checkWeights(t, by(q), []api.Num{of(5), more(factor, 6), of(7)}, factor)
	}
}

// P10.2: what x is less a point needs no inverse.
func TestWeightsAtWhatIsInCommonWithQ(t *testing.T) {
	for _, q := range []uint64{15, 21, 35, 49, 77, 143} {
		for x := range q {
			want, wrong := weights(of(q), list(0, 1, 2), of(x))
			if wrong != api.OK {
				t.Errorf("by %d: %d", q, wrong)
			}
			isWeights(t, by(of(q)), list(0, 1, 2), of(x), want, api.OK)
		}
	}
}

// P10.2, R2: ErrArg goes ahead of ErrNone, whatever stands first.
func TestWeightsTellWhatIsNamedFirst(t *testing.T) {
	for _, r := range []struct {
		q      api.Num
		points []api.Num
		x      api.Num
	}{
		{of(4), list(0, 2, 2), of(1)},
		{of(4), list(2, 0, 2), of(1)},
		{of(4), list(0, 2, 1, 1), of(1)},
		{of(4), list(1, 1, 0, 2), of(1)},
		{of(4), list(0, 2), of(4)},
		{of(4), list(0, 2), highest()},
		{of(4), list(0, 2, 4), of(1)},
		{of(4), list(4, 0, 2), of(1)},
		{of(4), []api.Num{of(0), of(2), highest()}, of(1)},
		{of(30030), list(7, 14, 21, 7), of(0)},
		{of(30030), list(7, 14, 21, 30030), of(0)},
		{highest(), list(0, 3, 6, 3), of(0)},
		{highest(), list(0, 3, 6), highest()},
		{highest(), []api.Num{of(0), of(3), highest()}, of(0)},
	} {
		isWeights(t, by(r.q), r.points, r.x, nil, api.ErrArg)
	}
}

// P10.2: neither P nor G nor H is asked.
func TestWeightsAskForQAlone(t *testing.T) {
	for _, q := range append(orders(), nothingGoesRound()...) {
		for _, g := range others(q) {
			for _, x := range []api.Num{of(0), of(1), more(q, -1), q, highest()} {
				checkWeights(t, g, []api.Num{x}, of(1))
				checkWeights(t, g, []api.Num{of(1), x}, of(0))
				checkWeights(t, g, list(1, 0), x)
				checkWeights(t, g, nil, x)
			}
		}
	}
}
