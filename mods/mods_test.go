package mods_test

import (
	"math/big"
	"testing"

	"balefire/api"
	"balefire/mods"
)

// call: one that takes two numbers below m, and what it does to whole numbers.
type call struct {
	name  string
	do    func(a, b, m api.Num) (api.Num, api.Errno)
	whole func(z, a, b *big.Int) *big.Int
}

func calls() []call {
	return []call{
		{"Add", mods.Add, (*big.Int).Add},
		{"Sub", mods.Sub, (*big.Int).Sub},
		{"Mul", mods.Mul, (*big.Int).Mul},
	}
}

func (c call) check(t *testing.T, a, b, m, want api.Num) {
	t.Helper()
	if got, e := c.do(a, b, m); got != want || e != api.OK {
		t.Errorf("%s(%x, %x, %x): %x, %d, not %x", c.name, a, b, m, got, e, want)
	}
}

// fails: the error that is named, and nothing beside it.
func (c call) fails(t *testing.T, a, b, m api.Num, want api.Errno) {
	t.Helper()
	if got, e := c.do(a, b, m); got != (api.Num{}) || e != want {
		t.Errorf("%s(%x, %x, %x): %x, %d, not 0, %d", c.name, a, b, m, got, e, want)
	}
}

// P4.1: the chapter's Examples, and others that are told by hand.
func TestSums(t *testing.T) {
	add := calls()[0]
	for _, c := range []struct{ a, b, m, want api.Num }{
		{of(5), of(6), of(7), of(4)},
		{of(3), of(3), of(7), of(6)},
		{of(3), of(4), of(7), of(0)},
		{of(0), of(0), of(7), of(0)},
		{of(6), of(6), of(7), of(5)},
		{of(1), of(1), of(2), of(0)},
		{of(most), of(1), near(64, 1), near(64, 0)},
		{of(most), of(1), near(64, 0), of(0)},
		{of(most - 1), of(most - 1), of(most), of(most - 2)},
		// Beyond 2^256.
		{near(255, 0), near(255, 0), near(255, 1), near(255, -1)},
		{near(255, 0), near(255, 0), highest(), of(1)},
		{near(256, -2), near(256, -2), highest(), near(256, -3)},
		{near(256, -3), near(256, -3), near(256, -2), near(256, -4)},
		// At 2^256 less one, and at m, just not beyond.
		{near(255, -1), near(255, 0), highest(), of(0)},
		{near(255, -1), near(255, -1), highest(), near(256, -2)},
		{near(256, -3), of(1), near(256, -2), of(0)},
	} {
		add.check(t, c.a, c.b, c.m, c.want)
	}
}

// P4.1
func TestDifferences(t *testing.T) {
	sub := calls()[1]
	for _, c := range []struct{ a, b, m, want api.Num }{
		{of(2), of(6), of(7), of(3)},
		{of(6), of(2), of(7), of(4)},
		{of(6), of(6), of(7), of(0)},
		{of(0), of(0), of(7), of(0)},
		{of(0), of(1), of(7), of(6)},
		{of(0), of(6), of(7), of(1)},
		{of(0), of(1), of(2), of(1)},
		{near(64, 0), of(1), near(64, 1), of(most)},
		{of(0), near(64, 0), near(64, 1), of(1)},
		{of(0), of(1), highest(), near(256, -2)},
		{of(0), near(256, -2), highest(), of(1)},
		{of(1), near(256, -2), highest(), of(2)},
		{of(0), near(255, 0), near(255, 1), of(1)},
		{near(255, -1), near(255, 0), near(255, 1), near(255, 0)},
		{near(256, -2), of(0), highest(), near(256, -2)},
	} {
		sub.check(t, c.a, c.b, c.m, c.want)
	}
}

// P4.1
func TestProducts(t *testing.T) {
	mul := calls()[2]
	for _, c := range []struct{ a, b, m, want api.Num }{
		{of(5), of(6), of(7), of(2)},
		{of(0), of(6), of(7), of(0)},
		{of(6), of(1), of(7), of(6)},
		{of(2), of(3), of(7), of(6)},
		{of(6), of(6), of(7), of(1)},
		{of(2), of(2), of(4), of(0)},
		{of(1), of(1), of(2), of(1)},
		{of(most), of(most), near(64, 1), of(4)},
		{near(128, 0), near(128, 0), highest(), of(1)},
		{near(128, 0), near(128, 0), near(256, -2), of(2)},
		{near(255, 0), near(255, 0), highest(), near(254, 0)},
		{near(256, -2), near(256, -2), highest(), of(1)},
		{near(256, -3), near(256, -3), near(256, -2), of(1)},
		{near(255, 0), near(255, 0), near(255, 1), of(1)},
		{near(255, -1), of(2), near(255, 0), near(255, -2)},
	} {
		mul.check(t, c.a, c.b, c.m, c.want)
	}
}

// P4.1
func TestAllThreeOfMany(t *testing.T) {
	for _, c := range calls() {
		for _, m := range moduli() {
			for _, a := range below(m) {
				for _, b := range below(m) {
					c.check(t, a, b, m, rest(c.whole(new(big.Int), bigOf(a), bigOf(b)), m))
				}
			}
		}
	}
}

// P4.1: whatever goes round by small ones.
func TestAllThreeOfSmallOnes(t *testing.T) {
	for m := uint64(2); m < 40; m++ {
		for a := range m {
			for b := range m {
				calls()[0].check(t, of(a), of(b), of(m), of((a+b)%m))
				calls()[1].check(t, of(a), of(b), of(m), of((a+m-b)%m))
				calls()[2].check(t, of(a), of(b), of(m), of(a*b%m))
			}
		}
	}
}

// P4.1: each bit of a product, from the lowest to the highest, counts by itself, and with all those below it.
func TestEachBitOfAProduct(t *testing.T) {
	mul := calls()[2]
	for _, m := range []api.Num{highest(), near(256, -2), near(256, -189), {5, 6, 7, 1<<63 | 8}, {most, 0, most, most - 1}} {
		for i := range allBits {
			for _, j := range []int{i, min(i+1, allBits-1)} {
				for _, less := range []int64{0, -1} {
					a, b := near(i, less), near(j, less)
					if bigOf(a).Cmp(bigOf(m)) < 0 && bigOf(b).Cmp(bigOf(m)) < 0 {
						mul.check(t, a, b, m, rest(new(big.Int).Mul(bigOf(a), bigOf(b)), m))
					}
				}
			}
		}
	}
}

// P4.1, R2: by 0 and by 1 nothing goes round, whatever else is handed in.
func TestAllThreeByNoughtAndOne(t *testing.T) {
	for _, c := range calls() {
		for _, m := range []api.Num{of(0), of(1)} {
			for _, a := range anything() {
				for _, b := range anything() {
					c.fails(t, a, b, m, api.ErrArg)
				}
			}
		}
	}
}

// P4.1, R2: either number at m, and above it; one below it may be.
func TestAllThreeOfWhatIsNotBelow(t *testing.T) {
	for _, c := range calls() {
		for _, m := range moduli() {
			for _, great := range tooGreat(m) {
				for _, b := range []api.Num{of(0), of(1), more(m, -1)} {
					c.fails(t, great, b, m, api.ErrArg)
					c.fails(t, b, great, m, api.ErrArg)
				}
				c.fails(t, great, great, m, api.ErrArg)
			}
			last := more(m, -1)
			for _, b := range []api.Num{of(0), of(1), last} {
				c.check(t, last, b, m, rest(c.whole(new(big.Int), bigOf(last), bigOf(b)), m))
				c.check(t, b, last, m, rest(c.whole(new(big.Int), bigOf(b), bigOf(last)), m))
			}
		}
	}
}

// P4.1: numbers are held against m by all their words.
func TestWhatIsNotBelowInOneWordAlone(t *testing.T) {
	m := api.Num{5, 5, 5, 5}
	for _, c := range calls() {
		for i := range m {
			great, small := m, m
			great[i]++
			small[i]--
			c.fails(t, great, of(1), m, api.ErrArg)
			c.fails(t, of(1), great, m, api.ErrArg)
			c.check(t, small, of(1), m, rest(c.whole(new(big.Int), bigOf(small), big.NewInt(1)), m))
			c.check(t, of(1), small, m, rest(c.whole(new(big.Int), big.NewInt(1), bigOf(small)), m))
		}
	}
}
