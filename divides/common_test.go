package divides_test

import (
	"math/big"
	"testing"

	"balefire/api"
	"balefire/divides"
)

func checkCommon(t *testing.T, a, b, want api.Num) {
	t.Helper()
	if got := divides.Common(a, b); got != want {
		t.Errorf("Common(%x, %x): %x, not %x", a, b, got, want)
	}
	if got := divides.Common(b, a); got != want {
		t.Errorf("Common(%x, %x): %x, not %x", b, a, got, want)
	}
}

// P3.3: the chapter's Examples, and others that are told by hand.
func TestCommon(t *testing.T) {
	for _, c := range []struct{ a, b, want api.Num }{
		{of(12), of(18), of(6)},
		{api.Num{}, of(5), of(5)},
		{api.Num{}, api.Num{}, api.Num{}},
		{of(17), of(5), of(1)},
		{of(6), of(12), of(6)},
		{of(1), highest(), of(1)},
		{highest(), near(128, 1), near(128, 1)},
		{highest(), near(128, -1), near(128, -1)},
		{highest(), near(192, -1), of(most)},
		{near(192, -1), near(128, -1), of(most)},
		{power(255), near(255, -1), of(1)},
		{api.Num{0, 0, 0, 12}, api.Num{0, 0, 0, 18}, api.Num{0, 0, 0, 6}},
		{api.Num{0, 0, 0, 12}, api.Num{0, 18, 0, 0}, api.Num{0, 6, 0, 0}},
	} {
		checkCommon(t, c.a, c.b, c.want)
	}
}

// P3.3
func TestCommonOfMany(t *testing.T) {
	for _, a := range longs() {
		for _, b := range longs() {
			checkCommon(t, a, b, numOf(new(big.Int).GCD(nil, nil, bigOf(a), bigOf(b))))
		}
	}
}

// P3.3: of one and 0, of equal ones, of one and 1, of neighbours.
func TestCommonOfNear(t *testing.T) {
	for _, a := range longs() {
		checkCommon(t, a, api.Num{}, a)
		checkCommon(t, a, a, a)
		checkCommon(t, a, of(1), of(1))
		if a != highest() {
			checkCommon(t, a, numOf(new(big.Int).Add(bigOf(a), big.NewInt(1))), of(1))
		}
	}
}

// P3.3
func TestCommonOfPowersOfTwo(t *testing.T) {
	for i := range allBits {
		for j := range i + 1 {
			checkCommon(t, power(i), power(j), power(j))
		}
		checkCommon(t, power(i), highest(), of(1))
	}
}

// P3.3: of multiples of a third one by numbers that have nothing in common.
func TestCommonOfMultiples(t *testing.T) {
	pairs := [][2]uint64{{1, 2}, {2, 3}, {8, 9}, {14, 15}, {1 << 20, 1<<20 - 1}, {4294967291, 4294967279}, {1<<61 - 1, 1<<31 - 1}}
	for _, c := range longs() {
		for _, p := range pairs {
			a := new(big.Int).Mul(bigOf(c), new(big.Int).SetUint64(p[0]))
			b := new(big.Int).Mul(bigOf(c), new(big.Int).SetUint64(p[1]))
			if a.BitLen() <= allBits && b.BitLen() <= allBits {
				checkCommon(t, numOf(a), numOf(b), c)
			}
		}
	}
}

// P3.3, R1: neighbours in Fibonacci's row take the most steps of all.
func TestCommonThatIsLong(t *testing.T) {
	a, b := big.NewInt(1), big.NewInt(1)
	for b.BitLen() <= allBits {
		checkCommon(t, numOf(a), numOf(b), of(1))
		a, b = b, new(big.Int).Add(a, b)
	}
}
