package scalars_test

import (
	"math/big"
	"testing"

	"balefire/api"
	"balefire/mods"
	"balefire/scalars"
)

// call: one that takes two exponents, that of mods, and what both do to whole numbers.
type call struct {
	name  string
	do    func(g api.Group, a, b api.Num) (api.Num, api.Errno)
	mods  func(a, b, m api.Num) (api.Num, api.Errno)
	whole func(z, a, b *big.Int) *big.Int
}

var (
	add = call{"Add", scalars.Add, mods.Add, (*big.Int).Add}
	sub = call{"Sub", scalars.Sub, mods.Sub, (*big.Int).Sub}
	mul = call{"Mul", scalars.Mul, mods.Mul, (*big.Int).Mul}
)

func calls() []call { return []call{add, sub, mul} }

// answers: that number, or that error, and nothing beside it.
func (c call) answers(t *testing.T, g api.Group, a, b, want api.Num, wrong api.Errno) {
	t.Helper()
	if got, e := c.do(g, a, b); got != want || e != wrong {
		t.Errorf("%s(%x, %x, %x): %x, %d, not %x, %d", c.name, g, a, b, got, e, want, wrong)
	}
}

// check: as the promise's words have it, when big numbers tell it.
func (c call) check(t *testing.T, g api.Group, a, b api.Num) {
	t.Helper()
	if !goesRound(g, a) || !goesRound(g, b) {
		c.answers(t, g, a, b, of(0), api.ErrArg)
		return
	}
	c.answers(t, g, a, b, rest(c.whole(new(big.Int), bigOf(a), bigOf(b)), g.Q), api.OK)
}

// goesRound: whether Q is above 1, and the number below it.
func goesRound(g api.Group, a api.Num) bool {
	return bigOf(g.Q).Cmp(big.NewInt(1)) > 0 && bigOf(a).Cmp(bigOf(g.Q)) < 0
}

func inverts(t *testing.T, g api.Group, a, want api.Num, wrong api.Errno) {
	t.Helper()
	if got, e := scalars.Inv(g, a); got != want || e != wrong {
		t.Errorf("Inv(%x, %x): %x, %d, not %x, %d", g, a, got, e, want, wrong)
	}
}

func checkInv(t *testing.T, g api.Group, a api.Num) {
	t.Helper()
	if !goesRound(g, a) {
		inverts(t, g, a, of(0), api.ErrArg)
	} else if told := new(big.Int).ModInverse(bigOf(a), bigOf(g.Q)); told != nil {
		inverts(t, g, a, numOf(told), api.OK)
	} else {
		inverts(t, g, a, of(0), api.ErrNone)
	}
}

// P9.1: the first row of the chapter's Examples.
func TestExamples(t *testing.T) {
	g := example()
	add.answers(t, g, of(7), of(8), of(4), api.OK)
	sub.answers(t, g, of(2), of(5), of(8), api.OK)
	mul.answers(t, g, of(7), of(8), of(1), api.OK)
	inverts(t, g, of(2), of(6), api.OK)
	inverts(t, g, of(0), of(0), api.ErrNone)
	add.answers(t, g, of(11), of(0), of(0), api.ErrArg)
}

// P9.1: told by hand, by a Q of one word and of four.
func TestAllThreeByHand(t *testing.T) {
	for _, r := range []struct {
		c             call
		q, a, b, want api.Num
	}{
		{add, of(11), of(0), of(0), of(0)},
		{add, of(11), of(5), of(6), of(0)},
		{add, of(11), of(5), of(5), of(10)},
		{add, of(11), of(10), of(10), of(9)},
		{add, of(2), of(1), of(1), of(0)},
		{add, highest(), near(255, 0), near(255, 0), of(1)},
		{add, highest(), near(256, -2), near(256, -2), near(256, -3)},
		{add, near(255, 1), near(255, 0), near(255, 0), near(255, -1)},
		{sub, of(11), of(5), of(2), of(3)},
		{sub, of(11), of(5), of(5), of(0)},
		{sub, of(11), of(0), of(1), of(10)},
		{sub, of(11), of(0), of(10), of(1)},
		{sub, of(2), of(0), of(1), of(1)},
		{sub, highest(), of(0), of(1), near(256, -2)},
		{sub, highest(), of(1), near(256, -2), of(2)},
		{sub, near(255, 1), near(255, -1), near(255, 0), near(255, 0)},
		{mul, of(11), of(0), of(10), of(0)},
		{mul, of(11), of(10), of(10), of(1)},
		{mul, of(11), of(1), of(9), of(9)},
		{mul, of(12), of(3), of(4), of(0)},
		{mul, highest(), near(128, 0), near(128, 0), of(1)},
		{mul, highest(), near(256, -2), near(256, -2), of(1)},
		{mul, near(255, 1), near(255, 0), of(2), near(255, -1)},
	} {
		r.c.answers(t, by(r.q), r.a, r.b, r.want, api.OK)
	}
}

// P9.1
func TestInvByHand(t *testing.T) {
	for _, r := range []struct{ q, a, want api.Num }{
		{of(11), of(1), of(1)}, {of(11), of(6), of(2)}, {of(11), of(3), of(4)}, {of(11), of(10), of(10)}, {of(2), of(1), of(1)}, {of(12), of(5), of(5)}, {of(9), of(2), of(5)},
		{highest(), of(2), near(255, 0)}, {highest(), near(128, 0), near(128, 0)}, {near(255, 1), of(2), more(near(254, 0), 1)},
	} {
		inverts(t, by(r.q), r.a, r.want, api.OK)
	}
}

// P9.1: of all small ones, prime or not, 0 and 1 too, and of those beyond.
func TestAllFourOfSmallOnes(t *testing.T) {
	for q := range uint64(28) {
		g := by(of(q))
		for a := range q + 4 {
			checkInv(t, g, of(a))
			for b := range q + 4 {
				for _, c := range calls() {
					c.check(t, g, of(a), of(b))
				}
			}
		}
	}
}

// P9.1: in each place by itself, and in both, of what is below Q and of what is not.
func TestAllFourOfMany(t *testing.T) {
	for _, q := range orders() {
		g := by(q)
		for _, a := range numbers(q) {
			checkInv(t, g, a)
			for _, b := range numbers(q) {
				for _, c := range calls() {
					c.check(t, g, a, b)
				}
			}
		}
	}
}

// P9.1: that is what mods has, errors and all.
func TestAsModsHasThem(t *testing.T) {
	for _, q := range append(orders(), of(0), of(1)) {
		l := append(anything(), more(q, -1), q, more(q, 1))
		for _, a := range l {
			want, wrong := mods.Inv(a, q)
			inverts(t, by(q), a, want, wrong)
			for _, b := range l {
				for _, c := range calls() {
					want, wrong := c.mods(a, b, q)
					c.answers(t, by(q), a, b, want, wrong)
				}
			}
		}
	}
}

// anything: numbers of which nothing is asked.
func anything() []api.Num {
	return []api.Num{of(0), of(1), of(2), of(7), of(most), near(64, 0), near(255, 0), near(256, -2), highest(), {1, 2, 3, 4}}
}

// P9.1, R2: Q itself, one more, and the highest number.
func TestAllFourOfWhatIsNotBelow(t *testing.T) {
	for _, q := range orders() {
		g := by(q)
		for _, great := range tooGreat(q) {
			inverts(t, g, great, of(0), api.ErrArg)
			for _, c := range calls() {
				for _, b := range []api.Num{of(0), of(1), more(q, -1)} {
					c.answers(t, g, great, b, of(0), api.ErrArg)
					c.answers(t, g, b, great, of(0), api.ErrArg)
				}
				for _, b := range tooGreat(q) {
					c.answers(t, g, great, b, of(0), api.ErrArg)
				}
			}
		}
	}
}

// P9.1, R2: by 0 and by 1 nothing goes round, not even 0.
func TestAllFourByNoughtAndOne(t *testing.T) {
	for _, q := range []api.Num{of(0), of(1)} {
		for _, a := range anything() {
			inverts(t, by(q), a, of(0), api.ErrArg)
			for _, b := range anything() {
				for _, c := range calls() {
					c.answers(t, by(q), a, b, of(0), api.ErrArg)
				}
			}
		}
	}
}

// P9.1: numbers are held against Q by all of their words.
func TestWhatIsNotBelowInOneWordAlone(t *testing.T) {
	q := api.Num{5, 5, 5, 5}
	for i := range q {
		above, below := q, q
		above[i]++
		below[i]--
		for _, a := range []api.Num{above, below} {
			checkInv(t, by(q), a)
			for _, c := range calls() {
				c.check(t, by(q), a, of(1))
				c.check(t, by(q), of(1), a)
				c.check(t, by(q), a, a)
			}
		}
	}
}

// P9.1, R2: who has more than 1 in common with Q has no inverse, and 0 never has; by a prime each other one does.
func TestInvWhereThereIsNone(t *testing.T) {
	for _, r := range []struct{ q, a api.Num }{
		{of(4), of(2)}, {of(9), of(3)}, {of(9), of(6)}, {of(12), of(10)}, {of(15), of(10)}, {of(30030), of(77)},
		{near(64, 0), near(63, 0)}, {near(256, -2), of(2)}, {near(256, -2), near(255, -1)}, {highest(), of(3)}, {highest(), of(most)}, {highest(), near(128, 1)}, {near(255, 0), near(254, 0)}, {near(255, 1), of(3)},
	} {
		inverts(t, by(r.q), r.a, of(0), api.ErrNone)
	}
	for _, q := range orders() {
		inverts(t, by(q), of(0), of(0), api.ErrNone)
	}
	for _, q := range primes() {
		for _, a := range random(9, q, 20) {
			if _, e := scalars.Inv(by(q), a); (e == api.OK) != (a != of(0)) {
				t.Errorf("Inv(%x, %x): %d", q, a, e)
			}
		}
	}
}

// others: groups of one Q, with all else unlike: nothing, what would refuse each number, what is no group.
func others(q api.Num) []api.Group {
	l := []api.Group{{P: of(23), Q: q, G: of(4), H: of(9)}, {P: q, Q: q, G: q, H: q}}
	for _, n := range []api.Num{of(0), of(1), of(2), more(q, -1), more(q, 1), highest()} {
		l = append(l, api.Group{P: n, Q: q}, api.Group{Q: q, G: n}, api.Group{Q: q, H: n}, api.Group{P: n, Q: q, G: n, H: n})
	}
	return l
}

// P9.1: neither P nor G nor H is asked.
func TestAllFourAskForQAlone(t *testing.T) {
	for _, q := range append(orders(), of(0), of(1)) {
		for _, g := range others(q) {
			for _, a := range []api.Num{of(0), of(1), of(7), more(q, -1), q, highest()} {
				checkInv(t, g, a)
				for _, c := range calls() {
					c.check(t, g, a, of(1))
					c.check(t, g, of(1), a)
					c.check(t, g, a, a)
				}
			}
		}
	}
}
