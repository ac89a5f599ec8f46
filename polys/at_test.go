package polys_test

import (
	"math/big"
	"math/rand"
	"slices"
	"testing"

	"balefire/api"
)

// P10.1: the chapter's Examples.
func TestExamplesOfAt(t *testing.T) {
	isAt(t, by(of(11)), list(1, 2, 3), of(2), of(6), api.OK)
	isAt(t, by(of(11)), nil, of(5), of(0), api.OK)
}

// P10.1: told by hand, by a Q of one word and of four, prime and not.
func TestAtByHand(t *testing.T) {
	for _, r := range []struct {
		q       api.Num
		p       []api.Num
		x, want api.Num
		wrong   api.Errno
	}{
		{of(11), list(7), of(5), of(7), 0},
		{of(11), list(1, 2), of(3), of(7), 0},
		{of(11), list(1, 2, 3), of(0), of(1), 0},
		{of(11), list(1, 2, 3), of(1), of(6), 0},
		{of(11), list(1, 2, 3), of(10), of(2), 0},
		{of(11), list(3, 2, 1), of(2), of(0), 0},
		{of(11), list(0, 0, 0, 1), of(2), of(8), 0},
		{of(11), list(0, 0, 0, 0, 1), of(2), of(5), 0},
		{of(11), list(5, 0, 0), of(9), of(5), 0},
		{of(11), list(0, 0), of(9), of(0), 0},
		{of(11), list(10, 10, 10), of(10), of(10), 0},
		{of(12), list(0, 3, 1), of(4), of(4), 0},
		{of(12), list(0, 3), of(4), of(0), 0},
		{of(12), list(1, 0, 1), of(6), of(1), 0},
		{of(2), list(1, 1, 1), of(1), of(1), 0},
		{of(2), list(1, 1, 1), of(0), of(1), 0},
		{of(2), list(1, 1), of(1), of(0), 0},
		{highest(), list(1, 0, 1), near(128, 0), of(2), 0},
		{highest(), []api.Num{of(5), near(128, 0)}, near(128, 0), of(6), 0},
		{highest(), []api.Num{of(0), near(256, -2), near(256, -2)}, near(256, -2), of(0), 0},
		{near(255, 1), list(1, 2), near(255, 0), near(255, 0), 0},
		{near(255, 1), list(1, 1), near(255, 0), of(0), 0},
		{of(11), list(1, 2, 3), of(11), of(0), 1},
		{of(11), list(11), of(0), of(0), 1},
		{of(11), list(1, 2, 11), of(0), of(0), 1},
		{of(11), nil, of(11), of(0), 1},
		{of(0), nil, of(0), of(0), 1},
		{of(1), nil, of(0), of(0), 1},
		{of(1), list(0), of(0), of(0), 1},
	} {
		isAt(t, by(r.q), r.p, r.x, r.want, r.wrong)
	}
}

// P10.1, R4: of no coefficients it is 0 anywhere, whether there is a list or not, and room in it; x is asked nevertheless.
func TestAtOfNone(t *testing.T) {
	for _, p := range [][]api.Num{nil, {}, make([]api.Num, 0, 5), {highest(), highest()}} {
		p = p[:0]
		for _, q := range orders() {
			for _, x := range ends(q) {
				isAt(t, by(q), p, x, of(0), api.OK)
			}
			for _, x := range tooGreat(q) {
				isAt(t, by(q), p, x, of(0), api.ErrArg)
			}
		}
		for _, q := range nothingGoesRound() {
			for _, x := range []api.Num{of(0), of(1), of(2), highest()} {
				isAt(t, by(q), p, x, of(0), api.ErrArg)
			}
		}
	}
}

// P10.1: of one it is that one, anywhere.
func TestAtOfOne(t *testing.T) {
	for _, q := range orders() {
		for _, c := range ends(q) {
			for _, x := range ends(q) {
				isAt(t, by(q), []api.Num{c}, x, c, api.OK)
			}
		}
	}
}

// P10.1: a coefficient by itself counts times x to the power of its place.
func TestAtOfEachPlace(t *testing.T) {
	for _, q := range orders() {
		for _, x := range ends(q) {
			for _, c := range ends(q) {
				for place := range 5 {
					power := new(big.Int).Exp(bigOf(x), big.NewInt(int64(place)), bigOf(q))
					want := rest(power.Mul(power, bigOf(c)), q)
					isAt(t, by(q), with(make([]api.Num, place+1), place, c), x, want, api.OK)
					isAt(t, by(q), with(make([]api.Num, place+3), place, c), x, want, api.OK)
				}
			}
		}
	}
}

// P10.1: at 0 the lowest one, at 1 the sum, at one less than Q the sum of every second one less the others.
func TestAtTheEnds(t *testing.T) {
	r := rand.New(rand.NewSource(1))
	for _, q := range orders() {
		for many := 1; many < 10; many++ {
			p := some(r, q, many)
			sum, turned := new(big.Int), new(big.Int)
			for i, c := range p {
				sum.Add(sum, bigOf(c))
				if i%2 == 0 {
					turned.Add(turned, bigOf(c))
				} else {
					turned.Sub(turned, bigOf(c))
				}
			}
			isAt(t, by(q), p, of(0), p[0], api.OK)
			isAt(t, by(q), p, of(1), rest(sum, q), api.OK)
			isAt(t, by(q), p, more(q, -1), rest(turned, q), api.OK)
		}
	}
}

// P10.1
func TestAtOfMany(t *testing.T) {
	r := rand.New(rand.NewSource(2))
	for _, q := range orders() {
		for many := range 12 {
			p := some(r, q, many)
			for _, x := range append(ends(q), some(r, q, 3)...) {
				checkAt(t, by(q), p, x)
			}
		}
	}
	for _, q := range []api.Num{of(11), near(255, -19), highest()} {
		checkAt(t, by(q), some(r, q, 700), some(r, q, 1)[0])
		checkAt(t, by(q), slices.Repeat([]api.Num{more(q, -1)}, 300), more(q, -1))
	}
}

// P10.1: whatever is small: all numbers, all places, also those that may not be.
func TestAtOfSmallOnes(t *testing.T) {
	for q := range uint64(7) {
		for many := range 4 {
			for _, p := range lists(many, q+1) {
				for x := range q + 2 {
					checkAt(t, by(of(q)), p, of(x))
				}
			}
		}
	}
}

// P10.1, R2: in each place by itself, and in x, what is not below Q.
func TestAtOfWhatIsNotBelow(t *testing.T) {
	r := rand.New(rand.NewSource(3))
	for _, q := range orders() {
		for many := range 6 {
			p := some(r, q, many)
			for _, great := range tooGreat(q) {
				for _, x := range ends(q) {
					for i := range p {
						isAt(t, by(q), with(p, i, great), x, of(0), api.ErrArg)
						isAt(t, by(q), with(p, i, great), great, of(0), api.ErrArg)
					}
				}
				isAt(t, by(q), p, great, of(0), api.ErrArg)
				isAt(t, by(q), make([]api.Num, many), great, of(0), api.ErrArg)
			}
			checkAt(t, by(q), p, of(1))
		}
	}
}

// P10.1: numbers are held against Q by all of their words.
func TestAtOfWhatIsNotBelowInOneWordAlone(t *testing.T) {
	q := api.Num{5, 5, 5, 5}
	for i := range q {
		above, below := q, q
		above[i]++
		below[i]--
		for _, a := range []api.Num{above, below} {
			checkAt(t, by(q), []api.Num{of(1), a}, of(2))
			checkAt(t, by(q), list(1, 2), a)
		}
	}
}

// P10.1, R2: by 0 and by 1 there is no exponent.
func TestAtByNoughtAndOne(t *testing.T) {
	for _, q := range nothingGoesRound() {
		for _, a := range []api.Num{of(0), of(1), of(2), highest()} {
			for many := range 4 {
				for _, x := range []api.Num{of(0), of(1), highest()} {
					isAt(t, by(q), slices.Repeat([]api.Num{a}, many), x, of(0), api.ErrArg)
				}
			}
		}
	}
}

// P10.1: neither P nor G nor H is asked.
func TestAtAsksForQAlone(t *testing.T) {
	for _, q := range append(orders(), nothingGoesRound()...) {
		for _, g := range others(q) {
			for _, x := range []api.Num{of(0), of(1), more(q, -1), q, highest()} {
				checkAt(t, g, nil, x)
				checkAt(t, g, []api.Num{of(1), x, of(0), of(1)}, of(1))
				checkAt(t, g, []api.Num{of(1), of(0), of(1)}, x)
			}
		}
	}
}
