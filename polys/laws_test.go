package polys_test

import (
	"math/rand"
	"slices"
	"testing"

	"balefire/api"
	"balefire/polys"
	"balefire/scalars"
)

// round: what is done by one Q, where nothing fails.
type round struct {
	t *testing.T
	g api.Group
}

func (r round) at(p []api.Num, x api.Num) api.Num {
	r.t.Helper()
	n, e := polys.At(r.g, p, x)
	if e != api.OK || !areExponents(r.g.Q, n) {
		r.t.Errorf("At(%x, %x, %x): %x, %d", r.g.Q, p, x, n, e)
	}
	return n
}

func (r round) atAll(p, points []api.Num) []api.Num {
	r.t.Helper()
	var l []api.Num
	for _, x := range points {
		l = append(l, r.at(p, x))
	}
	return l
}

func (r round) weights(points []api.Num, x api.Num) []api.Num {
	r.t.Helper()
	l, e := polys.Weights(r.g, points, x)
	if e != api.OK || len(l) != len(points) || !areExponents(r.g.Q, l...) {
		r.t.Errorf("Weights(%x, %x, %x): %x, %d", r.g.Q, points, x, l, e)
	}
	return l
}

func (r round) through(points, values []api.Num) []api.Num {
	r.t.Helper()
	p, e := polys.Through(r.g, points, values)
	if e != api.OK || len(p) != len(points) || !areExponents(r.g.Q, p...) {
		r.t.Errorf("Through(%x, %x, %x): %x, %d", r.g.Q, points, values, p, e)
	}
	return p
}

// together: the sum of each, times its neighbour in the other list.
func (r round) together(a, b []api.Num) api.Num {
	r.t.Helper()
	var sum api.Num
	for i := range a {
		product, e := scalars.Mul(r.g, a[i], b[i])
		if e != api.OK {
			r.t.Errorf("by %x, %x times %x: %d", r.g.Q, a[i], b[i], e)
		}
		sum, _ = scalars.Add(r.g, sum, product)
	}
	return sum
}

func (r round) same(what string, got, want []api.Num) {
	r.t.Helper()
	if !slices.Equal(got, want) {
		r.t.Errorf("%s, by %x: %x, not %x", what, r.g.Q, got, want)
	}
}

// eachRound: by each Q, so many points at most of which any two may be taken.
func eachRound(t *testing.T, seed int64, most int, try func(r round, some *rand.Rand, points []api.Num)) {
	some := rand.New(rand.NewSource(seed))
	for _, q := range orders() {
		for many := 1; many <= most; many++ {
			points := unlike(some, q, many)
			if !allHaveInverses(q, points) {
				// Small ones that are close are left, as many as may be.
				points = nil
				for n := uint64(0); n < uint64(many) && areExponents(q, of(n)) && allHaveInverses(q, append(slices.Clone(points), of(n))); n++ {
					points = append(points, of(n))
				}
			}
			try(round{t, by(q)}, some, points)
		}
	}
}

// P10.4: Through goes through the values.
func TestThroughGoesThroughTheValues(t *testing.T) {
	eachRound(t, 1, 8, func(r round, any *rand.Rand, points []api.Num) {
		for _, values := range [][]api.Num{some(any, r.g.Q, len(points)), points, make([]api.Num, len(points)), slices.Repeat([]api.Num{more(r.g.Q, -1)}, len(points))} {
			r.same("values", r.atAll(r.through(points, values), points), values)
		}
	})
}

// P10.4: of a polynomial's values at as many points as it has coefficients Through is that one, and at more points, too, behind which 0 follows.
func TestThroughAPolynomialsValues(t *testing.T) {
	eachRound(t, 2, 8, func(r round, any *rand.Rand, points []api.Num) {
		for coefficients := range len(points) + 1 {
			p := some(any, r.g.Q, coefficients)
			all := append(slices.Clone(p), make([]api.Num, len(points)-coefficients)...)
			r.same("a polynomial", r.through(points, r.atAll(p, points)), all)
		}
	})
}

// P10.4: no other polynomial of as many coefficients goes through the values; each of all small ones, prime or not, is told by its own.
func TestThroughIsTheOneThatGoesThrough(t *testing.T) {
	for _, q := range []uint64{2, 3, 4, 5, 6, 9} {
		r := round{t, by(of(q))}
		for many := 1; many < 4; many++ {
			for _, points := range lists(many, min(q, 4)) {
				if !arePoints(r.g.Q, points) || !allHaveInverses(r.g.Q, points) {
					continue
				}
				seen := map[string]int{}
				for _, p := range lists(many, q) {
					values := r.atAll(p, points)
					r.same("a polynomial", r.through(points, values), p)
					seen[text(values)]++
				}
				if len(seen) != len(lists(many, q)) {
					t.Errorf("by %d, at %d: %d lists of values", q, points, len(seen))
				}
			}
		}
	}
}

// text: of small numbers.
func text(l []api.Num) string {
	var b []byte
	for _, n := range l {
		b = append(b, byte(n[0]))
	}
	return string(b)
}

// P10.4: a polynomial of at most as many coefficients as points is told anywhere by its values there, times the weights.
func TestValuesAnywhere(t *testing.T) {
	eachRound(t, 3, 8, func(r round, any *rand.Rand, points []api.Num) {
		var polynomials, values [][]api.Num
		for coefficients := range len(points) + 1 {
			p := some(any, r.g.Q, coefficients)
			polynomials, values = append(polynomials, p), append(values, r.atAll(p, points))
		}
		for _, x := range append(append(ends(r.g.Q), some(any, r.g.Q, 3)...), points...) {
			l := r.weights(points, x)
			for i, p := range polynomials {
				r.same("a value", []api.Num{r.together(values[i], l)}, []api.Num{r.at(p, x)})
			}
		}
	})
}

// P10.4: any values, times the weights, are what Through of them is there.
func TestValuesAnywhereOfWhatGoesThrough(t *testing.T) {
	eachRound(t, 4, 7, func(r round, any *rand.Rand, points []api.Num) {
		values := some(any, r.g.Q, len(points))
		p := r.through(points, values)
		for _, x := range append(ends(r.g.Q), some(any, r.g.Q, 3)...) {
			r.same("a value", []api.Num{r.together(values, r.weights(points, x))}, []api.Num{r.at(p, x)})
		}
	})
}

// P10.4: a weight is the value of the polynomial that is 1 at its own point and 0 at the other ones; all together they are 1.
func TestWeightsAreValuesOfPolynomials(t *testing.T) {
	eachRound(t, 5, 6, func(r round, any *rand.Rand, points []api.Num) {
		for _, x := range append(ends(r.g.Q), some(any, r.g.Q, 2)...) {
			l := r.weights(points, x)
			r.same("the weights together", []api.Num{r.together(l, slices.Repeat(list(1), len(l)))}, list(1))
			for i := range points {
				p := r.through(points, with(make([]api.Num, len(points)), i, of(1)))
				r.same("a weight", []api.Num{r.at(p, x)}, []api.Num{l[i]})
			}
		}
	})
}

// P10.2, P10.3: points may stand in any order: weights stand in theirs, and the polynomial does not ask for it.
func TestPointsInAnyOrder(t *testing.T) {
	eachRound(t, 6, 7, func(r round, any *rand.Rand, points []api.Num) {
		values, x := some(any, r.g.Q, len(points)), some(any, r.g.Q, 1)[0]
		p, l := r.through(points, values), r.weights(points, x)
		turned, turnedValues, turnedWeights := slices.Clone(points), slices.Clone(values), slices.Clone(l)
		any.Shuffle(len(points), func(i, k int) {
			turned[i], turned[k] = turned[k], turned[i]
			turnedValues[i], turnedValues[k] = turnedValues[k], turnedValues[i]
			turnedWeights[i], turnedWeights[k] = turnedWeights[k], turnedWeights[i]
		})
		r.same("a polynomial", r.through(turned, turnedValues), p)
		r.same("weights", r.weights(turned, x), turnedWeights)
	})
}
