package limbs_test

import (
	"testing"

	"balefire/api"
	"balefire/limbs"
)

// double: a number of 512 bits.
type double struct{ low, high api.Num }

func product(a, b api.Num) double {
	low, high := limbs.Mul(a, b)
	return double{low, high}
}

// total: the sum of two, and whether it goes beyond 512 bits.
func total(a, b double) (double, uint64) {
	low, carry := limbs.Add(a.low, b.low)
	high, over := limbs.Add(a.high, b.high)
	high, more := limbs.Add(high, limbs.Of(carry))
	return double{low, high}, over + more
}

// P2.5
func TestNoOrder(t *testing.T) {
	for _, a := range longs() {
		for _, b := range longs() {
			one, over := limbs.Add(a, b)
			two, over2 := limbs.Add(b, a)
			if one != two || over != over2 {
				t.Errorf("%x and %x: %x, %d, and %x, %d", a, b, one, over, two, over2)
			}
			if product(a, b) != product(b, a) {
				t.Errorf("%x times %x: %x, and %x", a, b, product(a, b), product(b, a))
			}
		}
	}
}

// P2.5
func TestSumsOfThree(t *testing.T) {
	for _, a := range longs() {
		for _, b := range longs() {
			ab, over := limbs.Add(a, b)
			for _, c := range longs() {
				bc, over2 := limbs.Add(b, c)
				left, more := limbs.Add(ab, c)
				right, more2 := limbs.Add(a, bc)
				if left != right || over+more != over2+more2 {
					t.Errorf("%x, %x, %x: %x, %d, and %x, %d", a, b, c, left, over+more, right, over2+more2)
				}
			}
		}
	}
}

// P2.5: also where the sum itself goes beyond 2^256: then c, 2^256 times, is missing.
func TestProductOfASum(t *testing.T) {
	for _, a := range longs() {
		for _, b := range longs() {
			sum, over := limbs.Add(a, b)
			for _, c := range longs() {
				want, beyond := total(product(a, c), product(b, c))
				got, beyond2 := total(product(sum, c), double{high: scaled(c, over)})
				if got != want || beyond != beyond2 {
					t.Errorf("(%x + %x) times %x: %x, %d, not %x, %d", a, b, c, got, beyond2, want, beyond)
				}
			}
		}
	}
}

func scaled(c api.Num, times uint64) api.Num {
	if times == 0 {
		return api.Num{}
	}
	return c
}

// P2.5
func TestAddedAndTakenAway(t *testing.T) {
	for _, a := range longs() {
		for _, b := range longs() {
			sum, over := limbs.Add(a, b)
			if back, below := limbs.Sub(sum, b); back != a || below != over {
				t.Errorf("%x and %x: %x, %d, %d", a, b, back, over, below)
			}
			rest, below := limbs.Sub(a, b)
			if back, over := limbs.Add(rest, b); back != a || below != over {
				t.Errorf("%x less %x: %x, %d, %d", a, b, back, below, over)
			}
		}
	}
}

// P2.5: what goes beyond 2^256 is what a shift to the right leaves.
func TestShiftIsAProduct(t *testing.T) {
	for _, a := range longs() {
		for n := range allBits {
			got := double{limbs.Shift(a, n), limbs.Shift(a, n-allBits)}
			if n == 0 {
				got.high = api.Num{}
			}
			if want := product(a, power(n)); got != want {
				t.Errorf("%x by %d: %x, not %x", a, n, got, want)
			}
		}
	}
}

// P2.5: the calls say one and the same of a number.
func TestCallsAgree(t *testing.T) {
	for _, a := range longs() {
		var sum api.Num
		for i := range allBits {
			sum, _ = limbs.Add(sum, limbs.Shift(limbs.Of(uint64(limbs.Bit(a, i))), i))
		}
		if sum != a {
			t.Errorf("the bits of %x: %x", a, sum)
		}
		many := limbs.Bits(a)
		if limbs.Shift(a, -many) != (api.Num{}) || many > 0 && limbs.Shift(a, 1-many) != limbs.Of(1) {
			t.Errorf("Bits(%x): %d", a, many)
		}
		for _, b := range longs() {
			_, below := limbs.Sub(a, b)
			if c := limbs.Cmp(a, b); (c < 0) != (below == 1) || (c == 0) != (a == b) || c != -limbs.Cmp(b, a) {
				t.Errorf("%x and %x: %d, %d", a, b, c, below)
			}
		}
	}
}

// R4, R5: nothing is kept, and nothing that is handed in is changed.
func TestAgain(t *testing.T) {
	for _, a := range longs() {
		for _, b := range longs() {
			was, was2 := a, b
			one, two := everything(a, b), everything(a, b)
			if one != two || a != was || b != was2 {
				t.Errorf("%x and %x: %x, then %x", a, b, one, two)
			}
		}
	}
}

// everything: what all calls answer for two numbers.
func everything(a, b api.Num) [9]api.Num {
	sum, over := limbs.Add(a, b)
	rest, below := limbs.Sub(a, b)
	low, high := limbs.Mul(a, b)
	return [9]api.Num{sum, limbs.Of(over), rest, limbs.Of(below), low, high, limbs.Shift(a, 70), limbs.Shift(b, -70), limbs.Of(uint64(limbs.Bits(a)) + uint64(limbs.Bit(b, 7)))}
}
