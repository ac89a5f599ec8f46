package duals_test

import (
	"math/big"
	"math/rand"
	"slices"
	"testing"

	"balefire/api"
	"balefire/duals"
	"balefire/polys"
	"balefire/scalars"
)

// P12.1: the chapter's Examples.
func TestExamplesOfWord(t *testing.T) {
	isWord(t, example(), 3, list(1), list(6, 10, 6), api.OK)
	isWord(t, example(), 3, list(1, 1, 1), nil, api.ErrArg)
	isWord(t, example(), 8, list(1), nil, api.ErrArg)
}

// P12.1: told by hand.
func TestWordByHand(t *testing.T) {
	less := more(highest(), -1)
	for _, r := range []struct {
		q     api.Num
		nodes int
		p     []api.Num
		want  []api.Num
		wrong api.Errno
	}{
		{of(11), 1, nil, list(0), 0}, {of(11), 2, nil, list(0, 0), 0}, {of(11), 7, nil, list(0, 0, 0, 0, 0, 0, 0), 0},
		{of(11), 2, list(1), list(10, 1), 0}, {of(11), 2, list(5), list(6, 5), 0}, {of(11), 2, list(0), list(0, 0), 0},
		{of(11), 3, list(0, 1), list(6, 9, 7), 0}, {of(11), 3, list(4, 2), list(3, 3, 5), 0},
		{of(11), 4, list(1), list(9, 6, 5, 2), 0},
		{of(11), 7, list(1), list(9, 1, 3, 7, 3, 1, 9), 0},
		{of(11), 7, list(0, 0, 0, 0, 0, 1), list(9, 10, 3, 7, 3, 10, 2), 0},
		{of(2), 1, nil, list(0), 0}, {of(2), 2, list(1), list(1, 1), 0}, {of(2), 2, nil, list(0, 0), 0},
		{of(2), 3, list(1), nil, 7}, {of(2), 3, nil, nil, 7}, {of(2), 3, list(2), nil, 1}, {of(2), 7, list(1), nil, 7},
		{of(3), 3, list(1), list(2, 2, 2), 0}, {of(3), 3, list(0, 1), list(2, 1, 0), 0}, {of(3), 4, list(1), nil, 7},
		{of(4), 2, list(1), list(3, 1), 0}, {of(4), 3, list(1), nil, 7}, {of(4), 3, list(1, 1, 1), nil, 1},
		{of(5), 5, list(1), list(4, 4, 4, 4, 4), 0}, {of(5), 6, list(1), nil, 7},
		{of(7), 7, list(1), list(6, 6, 6, 6, 6, 6, 6), 0}, {of(7), 7, list(0, 1), list(6, 5, 4, 3, 2, 1, 0), 0},
		{of(9), 3, list(1), list(5, 8, 5), 0}, {of(9), 4, list(1), nil, 7},
		{of(15), 3, list(1), list(8, 14, 8), 0}, {of(15), 4, list(1), nil, 7},
		{highest(), 2, list(1), []api.Num{less, of(1)}, 0}, {highest(), 3, list(1), []api.Num{near(255, 0), less, near(255, 0)}, 0}, {highest(), 4, list(1), nil, 7},
		{highest(), 2, []api.Num{less}, []api.Num{of(1), less}, 0},
		{near(255, 0), 2, list(1), []api.Num{near(255, -1), of(1)}, 0}, {near(255, 0), 3, list(1), nil, 7},
		{of(0), 1, nil, nil, 1}, {of(1), 1, nil, nil, 1}, {of(1), 2, list(0), nil, 1}, {of(0), 2, list(0), nil, 1},
		{of(11), 1, list(1), nil, 1}, {of(11), 0, nil, nil, 1}, {of(11), 3, list(1, 11), nil, 1}, {of(11), 3, list(12), nil, 1},
	} {
		isWord(t, by(r.q), r.nodes, r.p, r.want, r.wrong)
	}
}

// polynomials: of no coefficients on, to two more than there may be nodes.
func polynomials(r *rand.Rand, q api.Num) [][]api.Num {
	var l [][]api.Num
	for many := range api.MaxNodes + 3 {
		l = append(l, some(r, q, many))
	}
	return l
}

// P12.1: so many nodes as may be, and no others, with each number of coefficients, by whatever Q.
func TestHowManyNodesMayBe(t *testing.T) {
	r := rand.New(rand.NewSource(1))
	for _, q := range orders() {
		for _, p := range polynomials(r, q) {
			for nodes := 1; nodes <= api.MaxNodes; nodes++ {
				checkWord(t, by(q), nodes, p)
			}
			for _, nodes := range outside(api.MaxNodes) {
				isWord(t, by(q), nodes, p, nil, api.ErrArg)
			}
		}
	}
}

// P12.1: fewer coefficients than nodes, and no more, whether there are inverses or not.
func TestHowManyCoefficientsMayBe(t *testing.T) {
	for _, q := range orders() {
		for nodes := 1; nodes <= api.MaxNodes; nodes++ {
			want := api.OK
			if !allHaveInverses(q, nodes) {
				want = api.ErrNone
			}
			for many := range nodes {
				for _, c := range []api.Num{of(0), of(1), more(q, -1)} {
					if l, e := duals.Word(by(q), nodes, slices.Repeat([]api.Num{c}, many)); e != want || (len(l) == nodes) != (e == api.OK) {
						t.Errorf("Word(%x, %d, %d of %x): %x, %d, not %d", q, nodes, many, c, l, e, want)
					}
				}
			}
			for _, many := range []int{nodes, nodes + 1, nodes + 2, 2 * nodes, 64, 256, 257} {
				for _, c := range []api.Num{of(0), of(1), more(q, -1), q, highest()} {
					isWord(t, by(q), nodes, slices.Repeat([]api.Num{c}, many), nil, api.ErrArg)
				}
			}
		}
	}
}

// P12.1, R4: of no coefficients all are 0, whether there is a list or not, and room in it.
func TestWordOfNone(t *testing.T) {
	for _, p := range [][]api.Num{nil, {}, make([]api.Num, 0, 9), {highest(), highest()}} {
		for nodes := 1; nodes <= api.MaxNodes; nodes++ {
			for _, q := range orders() {
				if allHaveInverses(q, nodes) {
					isWord(t, by(q), nodes, p[:0], make([]api.Num, nodes), api.OK)
				} else {
					isWord(t, by(q), nodes, p[:0], nil, api.ErrNone)
				}
			}
			for _, q := range nothingGoesRound() {
				isWord(t, by(q), nodes, p[:0], nil, api.ErrArg)
			}
		}
	}
}

// P12.1: each coefficient by itself, so that each node's number tells its power.
func TestWordOfEachPlace(t *testing.T) {
	for _, q := range orders() {
		for nodes := 1; nodes <= api.MaxNodes; nodes++ {
			for place := range nodes - 1 {
				for _, c := range ends(q) {
					checkWord(t, by(q), nodes, with(make([]api.Num, nodes-1), place, c))
					checkWord(t, by(q), nodes, with(make([]api.Num, place+1), place, c))
				}
			}
		}
	}
}

// P12.1: in each place by itself a coefficient that is Q, one more, or the highest number; ahead of an inverse that is not there, too.
func TestWordOfWhatIsNotBelow(t *testing.T) {
	r := rand.New(rand.NewSource(2))
	for _, q := range orders() {
		for nodes := 1; nodes <= api.MaxNodes; nodes++ {
			for many := range nodes {
				p := some(r, q, many)
				for i := range p {
					for _, great := range tooGreat(q) {
						isWord(t, by(q), nodes, with(p, i, great), nil, api.ErrArg)
					}
					checkWord(t, by(q), nodes, with(p, i, more(q, -1)))
				}
			}
		}
	}
}

// P12.1: by Q 0 and 1 there are no exponents.
func TestWordByNoughtAndOne(t *testing.T) {
	for _, q := range nothingGoesRound() {
		for _, a := range []api.Num{of(0), of(1), of(2), highest()} {
			for nodes := -1; nodes <= api.MaxNodes+1; nodes++ {
				for many := range api.MaxNodes + 2 {
					isWord(t, by(q), nodes, slices.Repeat([]api.Num{a}, many), nil, api.ErrArg)
				}
			}
		}
	}
}

// P12.1: all small polynomials by all small Q, for as many nodes as may be and as may not.
func TestWordOfAllSmall(t *testing.T) {
	for q := range uint64(18) {
		for nodes := -1; nodes <= api.MaxNodes+1; nodes++ {
			checkWord(t, by(of(q)), nodes, nil)
			for a := range q + 2 {
				checkWord(t, by(of(q)), nodes, list(a))
				for b := range q + 2 {
					checkWord(t, by(of(q)), nodes, list(a, b))
				}
			}
		}
	}
}

// P12.1: one difference that has no inverse suffices, by each Q that has a small number in common with it.
func TestWordWhereThereIsNoInverse(t *testing.T) {
	great := bigOf(near(127, -1))
	for divisor := int64(2); divisor < 10; divisor++ {
		for _, factor := range []*big.Int{big.NewInt(1), big.NewInt(11), great} {
			q := numOf(new(big.Int).Mul(factor, big.NewInt(divisor)))
			none := 0
			for nodes := 1; nodes <= api.MaxNodes; nodes++ {
				for many := range nodes {
					checkWord(t, by(q), nodes, slices.Repeat(list(1), many))
				}
				if l, e := duals.Word(by(q), nodes, nil); e == api.ErrNone && len(l) == 0 {
					none++
				}
			}
			least := divisor
			for _, d := range []int64{2, 3, 5, 7} {
				if divisor%d == 0 {
					least = d
					break
				}
			}
			if none != max(0, api.MaxNodes-int(least)) {
				t.Errorf("by %x, which %d divides, %d have none", q, divisor, none)
			}
		}
	}
}

// P12.1: where Q is not prime, but each difference has an inverse, there are words.
func TestWordByWhatIsNotPrime(t *testing.T) {
	r := rand.New(rand.NewSource(3))
	for _, q := range append(list(49, 77, 121, 143, 11*13*17), ofTwoGreat()) {
		if bigOf(q).ProbablyPrime(20) {
			t.Fatalf("the test's own %x", q)
		}
		for nodes := 1; nodes <= api.MaxNodes; nodes++ {
			for many := range nodes {
				p := some(r, q, many)
				want, _ := word(q, nodes, p)
				isWord(t, by(q), nodes, p, want, api.OK)
			}
		}
	}
}

// P12.1: neither P nor G nor H is asked.
func TestWordAsksForQAlone(t *testing.T) {
	for _, q := range append(orders(), nothingGoesRound()...) {
		for _, g := range others(q) {
			for _, p := range [][]api.Num{nil, {of(1)}, {of(0), of(1), of(1)}, {of(1), q}} {
				for _, nodes := range []int{1, 2, 4, api.MaxNodes} {
					checkWord(t, g, nodes, p)
				}
			}
		}
	}
}

// P12.1: each of it is what polys.At tells at the node's number, by the product of the differences.
func TestWordIsValuesByDifferences(t *testing.T) {
	r := rand.New(rand.NewSource(4))
	for _, q := range orders() {
		for nodes := 1; nodes <= api.MaxNodes; nodes++ {
			g, p := by(q), some(r, q, r.Intn(nodes))
			l, e := duals.Word(g, nodes, p)
			if e != api.OK {
				continue
			}
			for i := range nodes {
				back := l[i]
				for k := range nodes {
					if i != k {
						back, _ = scalars.Mul(g, back, scalars.Of(g, int64(i-k)))
					}
				}
				if n, e := polys.At(g, p, scalars.Of(g, int64(i+1))); back != n || e != api.OK {
					t.Errorf("Word(%x, %d, %x): %x; %x in place %d, not %x, %d", q, nodes, p, l, back, i, n, e)
				}
			}
		}
	}
}
