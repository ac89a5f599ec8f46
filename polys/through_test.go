package polys_test

import (
	"math/big"
	"math/rand"
	"slices"
	"testing"

	"balefire/api"
)

// P10.3: the chapter's Examples.
func TestExamplesOfThrough(t *testing.T) {
	isThrough(t, by(of(11)), list(1, 2, 3), list(6, 6, 1), list(1, 2, 3), api.OK)
	isThrough(t, by(of(4)), list(0, 2), list(1, 1), nil, api.ErrNone)
}

// P10.3: told by hand, by a Q of one word and of four, prime and not.
func TestThroughByHand(t *testing.T) {
	for _, r := range []struct {
		q                    api.Num
		points, values, want []api.Num
		wrong                api.Errno
	}{
		{of(11), list(7), list(5), list(5), 0},
		{of(11), list(0), list(0), list(0), 0},
		{of(11), list(0, 1), list(3, 5), list(3, 2), 0},
		{of(11), list(1, 0), list(5, 3), list(3, 2), 0},
		{of(11), list(1, 0), list(3, 5), list(5, 9), 0},
		{of(11), list(1, 2, 3), list(1, 4, 9), list(0, 0, 1), 0},
		{of(11), list(3, 1, 2), list(1, 6, 6), list(1, 2, 3), 0},
		{of(11), list(1, 2, 3), list(3, 5, 7), list(1, 2, 0), 0},
		{of(11), list(1, 2, 3), list(4, 4, 4), list(4, 0, 0), 0},
		{of(11), list(1, 2, 3), list(0, 0, 0), list(0, 0, 0), 0},
		{of(11), list(0, 1, 2), list(0, 0, 1), list(0, 5, 6), 0},
		{of(11), list(4, 5, 6, 7), list(0, 0, 0, 1), list(2, 5, 3, 2), 0},
		{of(11), list(0, 10), list(1, 0), list(1, 1), 0},
		{of(2), list(0, 1), list(1, 0), list(1, 1), 0},
		{of(2), list(0, 1), list(1, 1), list(1, 0), 0},
		{of(3), list(0, 1, 2), list(0, 0, 1), list(0, 1, 2), 0},
		{of(4), list(0, 1), list(3, 1), list(3, 2), 0},
		{of(4), list(0, 2), list(1, 3), nil, 7},
		{of(6), list(0, 1, 2), list(0, 0, 0), nil, 7},
		{of(15), list(0, 1, 2), list(0, 1, 4), list(0, 0, 1), 0},
		{of(15), list(0, 1, 2), list(0, 0, 1), list(0, 7, 8), 0},
		{highest(), list(0, 2), list(0, 1), []api.Num{of(0), near(255, 0)}, 0},
		{highest(), list(0, 1), []api.Num{near(256, -2), of(0)}, []api.Num{near(256, -2), of(1)}, 0},
		{highest(), list(0, 3), list(0, 3), nil, 7},
		{of(11), list(1, 2), list(1), nil, 1},
		{of(11), list(1, 2), list(1, 2, 3), nil, 1},
		{of(11), list(1, 2), list(1, 11), nil, 1},
		{of(11), list(1, 11), list(1, 2), nil, 1},
		{of(11), list(1, 1), list(2, 2), nil, 1},
		{of(11), nil, nil, nil, 1},
		{of(1), list(0), list(0), nil, 1},
		{of(0), list(0), list(0), nil, 1},
	} {
		isThrough(t, by(r.q), r.points, r.values, r.want, r.wrong)
	}
}

// P10.3, R4: none are no points, whether there are lists or not, and room in them.
func TestThroughNoPoints(t *testing.T) {
	empty := [][]api.Num{nil, {}, make([]api.Num, 0, 5), list(1, 2)[:0]}
	for _, q := range append(orders(), nothingGoesRound()...) {
		for _, points := range empty {
			for _, values := range append(empty, list(0), list(0, 1)) {
				isThrough(t, by(q), points, values, nil, api.ErrArg)
			}
		}
	}
}

// P10.3: of one point it is that value, wherever the point is.
func TestThroughOnePoint(t *testing.T) {
	for _, q := range orders() {
		for _, point := range ends(q) {
			for _, value := range ends(q) {
				isThrough(t, by(q), []api.Num{point}, []api.Num{value}, []api.Num{value}, api.OK)
			}
		}
	}
}

// P10.3
func TestThroughMany(t *testing.T) {
	r := rand.New(rand.NewSource(1))
	for _, q := range orders() {
		for many := 1; many < 9; many++ {
			points := unlike(r, q, many)
			for range 3 {
				checkThrough(t, by(q), points, some(r, q, len(points)))
			}
			for i := range points {
				checkThrough(t, by(q), points, with(make([]api.Num, len(points)), i, more(q, -1)))
			}
		}
	}
	for _, q := range []api.Num{of(257), near(255, -19), near(256, -189), ofTwoGreat()} {
		points := unlike(r, q, 40)
		checkThrough(t, by(q), points, some(r, q, 40))
		checkThrough(t, by(q), points, points)
	}
}

// P10.3: points at the ends of what is below Q.
func TestThroughPointsAtTheEnds(t *testing.T) {
	r := rand.New(rand.NewSource(2))
	for _, q := range orders() {
		var points []api.Num
		for _, a := range ends(q) {
			if !slices.Contains(points, a) {
				points = append(points, a)
			}
		}
		for many := range points {
			checkThrough(t, by(q), points[:many+1], some(r, q, many+1))
			checkThrough(t, by(q), points[many:], some(r, q, len(points)-many))
		}
	}
}

// P10.3: whatever is small: all numbers, all places, also those that may not be.
func TestThroughSmallOnes(t *testing.T) {
	for q := range uint64(7) {
		for many := range 3 {
			for _, points := range lists(many, q+1) {
				for _, values := range lists(many, q+1) {
					checkThrough(t, by(of(q)), points, values)
				}
			}
		}
	}
	for _, q := range []uint64{3, 5, 9} {
		for _, points := range lists(3, q) {
			for _, values := range lists(3, min(q, 4)) {
				checkThrough(t, by(of(q)), points, values)
			}
		}
	}
}

// P10.3: of a polynomial of fewer coefficients the last ones are 0, and are there.
func TestThroughWhereTheLastCoefficientsAreNought(t *testing.T) {
	r := rand.New(rand.NewSource(3))
	for _, q := range primes() {
		for many := 1; many < 8; many++ {
			points := unlike(r, q, many)
			for coefficients := range len(points) + 1 {
				p := append(some(r, q, coefficients), make([]api.Num, len(points)-coefficients)...)
				isThrough(t, by(q), points, valuesOf(q, p, points), p, api.OK)
			}
		}
	}
}

// valuesOf: a polynomial's, at the points, as big numbers tell them.
func valuesOf(q api.Num, p, points []api.Num) []api.Num {
	var l []api.Num
	for _, x := range points {
		value, _ := at(q, p, x)
		l = append(l, value)
	}
	return l
}

// P10.3, R2: as many values as points; one fewer, one more, and none.
func TestThroughOthersThanAsManyValues(t *testing.T) {
	r := rand.New(rand.NewSource(4))
	for _, q := range orders() {
		for many := 1; many < 6; many++ {
			points := unlike(r, q, many)
			values := some(r, q, len(points)+1)
			isThrough(t, by(q), points, values, nil, api.ErrArg)
			isThrough(t, by(q), points, values[:len(points)-1], nil, api.ErrArg)
			isThrough(t, by(q), points, nil, nil, api.ErrArg)
			isThrough(t, by(q), nil, values, nil, api.ErrArg)
			isThrough(t, by(q), points, append(slices.Clone(values), values...), nil, api.ErrArg)
			checkThrough(t, by(q), points, values[:len(points)])
		}
	}
}

// P10.3, R2: in each place by itself, of points and of values, what is not below Q.
func TestThroughWhatIsNotBelow(t *testing.T) {
	r := rand.New(rand.NewSource(5))
	for _, q := range orders() {
		for many := 1; many < 6; many++ {
			points := unlike(r, q, many)
			values := some(r, q, len(points))
			for _, great := range tooGreat(q) {
				for i := range points {
					isThrough(t, by(q), with(points, i, great), values, nil, api.ErrArg)
					isThrough(t, by(q), points, with(values, i, great), nil, api.ErrArg)
					isThrough(t, by(q), with(points, i, great), with(values, i, great), nil, api.ErrArg)
				}
			}
			checkThrough(t, by(q), points, values)
		}
	}
	q := api.Num{5, 5, 5, 5}
	for i := range q {
		above, below := q, q
		above[i]++
		below[i]--
		for _, a := range []api.Num{above, below} {
			checkThrough(t, by(q), []api.Num{of(1), a}, list(2, 3))
			checkThrough(t, by(q), list(1, 3), []api.Num{of(2), a})
		}
	}
}

// P10.3, R2: two alike, wherever they stand, even with one value.
func TestThroughPointsThatAreAlike(t *testing.T) {
	r := rand.New(rand.NewSource(6))
	for _, q := range orders() {
		for many := 2; many < 6; many++ {
			points := unlike(r, q, many)
			values := some(r, q, len(points))
			eachTwo(len(points), func(i, k int) {
				isThrough(t, by(q), with(points, i, points[k]), values, nil, api.ErrArg)
				isThrough(t, by(q), with(points, i, points[k]), with(values, i, values[k]), nil, api.ErrArg)
			})
		}
	}
}

// P10.3, R2: by 0 and by 1 there are no points.
func TestThroughByNoughtAndOne(t *testing.T) {
	for _, q := range nothingGoesRound() {
		for _, points := range [][]api.Num{nil, list(0), list(1), list(0, 1), list(0, 0), {highest()}, {of(2), highest()}} {
			for _, values := range [][]api.Num{nil, list(0), list(1), list(0, 0), {highest()}, {highest(), of(0)}} {
				isThrough(t, by(q), points, values, nil, api.ErrArg)
			}
		}
	}
}

// P10.3: by a Q that is not prime, any two points alone whose difference has no inverse, whatever the values are, even those of a polynomial.
func TestThroughWhereThereIsNoInverse(t *testing.T) {
	q := of(11 * 13)
	points := list(1, 2, 3, 5, 8)
	p := list(7, 142, 11, 0, 13)
	isThrough(t, by(q), points, valuesOf(q, p, points), p, api.OK)
	refused := 0
	eachTwo(len(points), func(i, k int) {
		for _, apart := range []int64{11, -11, 13, -13, 55, 26} {
			l := with(points, i, rest(big.NewInt(int64(points[k][0])+apart), q))
			if !arePoints(q, l) {
				t.Errorf("%d are alike", l)
			}
			refused++
			for _, values := range [][]api.Num{list(0, 0, 0, 0, 0), list(1, 2, 3, 4, 5), valuesOf(q, p, l)} {
				isThrough(t, by(q), l, values, nil, api.ErrNone)
			}
		}
	})
	if refused < 100 {
		t.Errorf("only %d were refused", refused)
	}
	great := ofTwoGreat()
	for _, factor := range []api.Num{near(127, -1), near(128, -159)} {
		isThrough(t, by(great), []api.Num{of(5), of(6), more(factor, 6)}, list(0, 0, 0), nil, api.ErrNone)
		checkThrough(t, by(great), []api.Num{of(5), more(factor, 6), of(7)}, []api.Num{factor, of(1), of(2)})
	}
}

// P10.3: by a Q that is not prime, where each difference has an inverse.
func TestThroughByQThatIsNotPrime(t *testing.T) {
	r := rand.New(rand.NewSource(7))
	for _, q := range composites() {
		for many := 1; many < 8; many++ {
			var points []api.Num
			for n := range uint64(many) {
				points = append(points, of(n))
			}
			if !arePoints(q, points) || !allHaveInverses(q, points) {
				continue
			}
			p := some(r, q, many)
			isThrough(t, by(q), points, valuesOf(q, p, points), p, api.OK)
		}
	}
}

// P10.3, R2: ErrArg goes ahead of ErrNone, whatever stands first.
func TestThroughTellsWhatIsNamedFirst(t *testing.T) {
	for _, r := range []struct {
		q              api.Num
		points, values []api.Num
	}{
		{of(4), list(0, 2), list(1)},
		{of(4), list(0, 2), list(1, 1, 1)},
		{of(4), list(0, 2), nil},
		{of(4), list(0, 2), list(1, 4)},
		{of(4), list(0, 2), []api.Num{highest(), of(0)}},
		{of(4), list(0, 2, 2), list(0, 0, 0)},
		{of(4), list(0, 2, 0), list(0, 0, 0)},
		{of(4), list(0, 2, 1, 1), list(0, 0, 0, 0)},
		{of(4), list(1, 1, 0, 2), list(0, 0, 0, 0)},
		{of(4), list(0, 2, 4), list(0, 0, 0)},
		{of(4), list(4, 0, 2), list(0, 0, 0)},
		{of(30030), list(7, 14, 21, 7), list(0, 0, 0, 0)},
		{of(30030), list(7, 14, 21), list(0, 0, 30030)},
		{highest(), list(0, 3, 6, 3), list(0, 0, 0, 0)},
		{highest(), list(0, 3), []api.Num{of(0), highest()}},
	} {
		isThrough(t, by(r.q), r.points, r.values, nil, api.ErrArg)
	}
}

// P10.3: neither P nor G nor H is asked.
func TestThroughAsksForQAlone(t *testing.T) {
	for _, q := range append(orders(), nothingGoesRound()...) {
		for _, g := range others(q) {
			for _, a := range []api.Num{of(0), of(1), more(q, -1), q, highest()} {
				checkThrough(t, g, []api.Num{a}, list(1))
				checkThrough(t, g, []api.Num{of(1), a}, list(1, 0))
				checkThrough(t, g, list(1, 0), []api.Num{of(1), a})
				checkThrough(t, g, nil, []api.Num{a})
			}
		}
	}
}
