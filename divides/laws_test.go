package divides_test

import (
	"math/big"
	"testing"

	"balefire/api"
	"balefire/divides"
	"balefire/limbs"
)

// P3.4
func TestHowOftenTimesBAndWhatIsLeft(t *testing.T) {
	numbers := append(longs(), random(34, 60)...)
	for _, a := range numbers {
		for _, b := range numbers {
			if b == (api.Num{}) {
				continue
			}
			q, r, e := divides.Div(a, b)
			low, high := limbs.Mul(q, b)
			sum, over := limbs.Add(low, r)
			if e != api.OK || sum != a || over != 0 || high != (api.Num{}) || limbs.Cmp(r, b) >= 0 {
				t.Errorf("Div(%x, %x): %x, %x, %d", a, b, q, r, e)
			}
		}
	}
}

// P3.4: Wide says of a number what Div does, of a product that nothing is left, and leaves what is below m.
func TestWideAndDivAgree(t *testing.T) {
	for _, a := range longs() {
		for _, m := range longs() {
			if m == (api.Num{}) {
				continue
			}
			_, r, _ := divides.Div(a, m)
			checkWide(t, a, api.Num{}, m, r)
			low, high := limbs.Mul(a, m)
			checkWide(t, low, high, m, api.Num{})
			if left, _ := divides.Wide(m, a, m); limbs.Cmp(left, m) >= 0 {
				t.Errorf("Wide(%x, %x, %x): %x", m, a, m, left)
			}
		}
	}
}

// P3.4: what is left of low and of 2^256 times high, together, is left of both.
func TestWideOfASum(t *testing.T) {
	for _, low := range ends() {
		for _, high := range ends() {
			for _, m := range ends() {
				if m == (api.Num{}) {
					continue
				}
				one, _ := divides.Wide(low, api.Num{}, m)
				two, _ := divides.Wide(api.Num{}, high, m)
				sum, over := limbs.Add(one, two)
				both, _ := divides.Wide(sum, limbs.Of(over), m)
				checkWide(t, low, high, m, both)
			}
		}
	}
}

// divisible: whether b divides a. (0 divides 0 alone.)
func divisible(a, b api.Num) bool {
	if b == (api.Num{}) {
		return a == b
	}
	return new(big.Int).Rem(bigOf(a), bigOf(b)).Sign() == 0
}

// P3.4
func TestWhateverDividesBothDividesTheGreatest(t *testing.T) {
	for _, a := range longs() {
		for _, b := range longs() {
			c := divides.Common(a, b)
			if !divisible(a, c) || !divisible(b, c) {
				t.Errorf("Common(%x, %x): %x, which does not divide both", a, b, c)
			}
			for _, d := range ends() {
				if divisible(a, d) && divisible(b, d) && !divisible(c, d) {
					t.Errorf("Common(%x, %x): %x, which %x does not divide", a, b, c, d)
				}
			}
		}
	}
}

// P3.4: likewise, of each divisor of small ones.
func TestDivisorsOfSmallOnes(t *testing.T) {
	for a := range uint64(60) {
		for b := range uint64(60) {
			var greatest uint64
			for d := uint64(1); d <= max(a, b); d++ {
				if a%d == 0 && b%d == 0 {
					greatest = d
				}
			}
			c := divides.Common(of(a), of(b))
			if c != of(greatest) {
				t.Errorf("Common(%d, %d): %x, not %d", a, b, c, greatest)
			}
			for d := uint64(1); d <= max(a, b); d++ {
				if a%d == 0 && b%d == 0 && c[0]%d != 0 {
					t.Errorf("Common(%d, %d): %x, which %d does not divide", a, b, c, d)
				}
			}
		}
	}
}

// R4, R5: nothing is kept, and nothing that is handed in is changed.
func TestAgain(t *testing.T) {
	for _, a := range longs() {
		for _, b := range longs() {
			was, was2 := a, b
			one, two := everything(a, b), everything(a, b)
			if one != two || a != was || b != was2 {
				t.Errorf("%x and %x: %x, then %x", a, b, one, two)
			}
		}
	}
}

// everything: what all calls answer for two numbers.
func everything(a, b api.Num) [6]api.Num {
	q, r, e := divides.Div(a, b)
	left, e2 := divides.Wide(a, b, a)
	return [6]api.Num{q, r, of(uint64(e)), left, of(uint64(e2)), divides.Common(a, b)}
}
