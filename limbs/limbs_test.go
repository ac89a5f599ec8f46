package limbs_test

import (
	"math"
	"math/big"
	"testing"

	"balefire/api"
	"balefire/limbs"
)

// P2.1
func TestOf(t *testing.T) {
	for _, n := range []uint64{0, 1, 2, 5, 1<<32 - 1, 1 << 32, 1<<63 - 1, 1 << 63, most} {
		if got := limbs.Of(n); got != (api.Num{n, 0, 0, 0}) {
			t.Errorf("Of(%d): %x", n, got)
		}
	}
}

// P2.1
func TestCmp(t *testing.T) {
	for _, c := range []struct {
		a, b api.Num
		want int
	}{
		{limbs.Of(3), limbs.Of(5), -1},
		{limbs.Of(5), limbs.Of(3), 1},
		{limbs.Of(5), limbs.Of(5), 0},
		{api.Num{}, api.Num{}, 0},
		{api.Num{}, highest(), -1},
		{highest(), api.Num{}, 1},
		{highest(), highest(), 0},
		{api.Num{most, most, most, most - 1}, api.Num{0, 0, 0, most}, -1},
		{api.Num{0, 0, 1, 7}, api.Num{most, most, 0, 7}, 1},
		{api.Num{0, 1, 7, 7}, api.Num{most, 0, 7, 7}, 1},
		{api.Num{1, 7, 7, 7}, api.Num{2, 7, 7, 7}, -1},
		{limbs.Of(1 << 63), limbs.Of(1), 1},
		{power(255), power(0), 1},
	} {
		if got := limbs.Cmp(c.a, c.b); got != c.want {
			t.Errorf("Cmp(%x, %x): %d, not %d", c.a, c.b, got, c.want)
		}
	}
	for _, a := range longs() {
		for _, b := range longs() {
			if got, want := limbs.Cmp(a, b), bigOf(a).Cmp(bigOf(b)); got != want {
				t.Errorf("Cmp(%x, %x): %d, not %d", a, b, got, want)
			}
		}
	}
}

// P2.1
func TestBits(t *testing.T) {
	for _, c := range []struct {
		a    api.Num
		want int
	}{
		{api.Num{}, 0},
		{limbs.Of(1), 1},
		{limbs.Of(4), 3},
		{limbs.Of(most), 64},
		{power(64), 65},
		{highest(), 256},
		{api.Num{most, 0, 1, 0}, 129},
	} {
		if got := limbs.Bits(c.a); got != c.want {
			t.Errorf("Bits(%x): %d, not %d", c.a, got, c.want)
		}
	}
	for i := range allBits {
		if got := limbs.Bits(power(i)); got != i+1 {
			t.Errorf("Bits(2^%d): %d", i, got)
		}
		if got := limbs.Bits(numOf(bigBelow(i))); got != i {
			t.Errorf("Bits(2^%d - 1): %d", i, got)
		}
	}
	for _, a := range longs() {
		if got, want := limbs.Bits(a), bigOf(a).BitLen(); got != want {
			t.Errorf("Bits(%x): %d, not %d", a, got, want)
		}
	}
}

// P2.1
func TestBit(t *testing.T) {
	for _, c := range []struct {
		a    api.Num
		i    int
		want uint
	}{
		{limbs.Of(4), 2, 1},
		{limbs.Of(4), 1, 0},
		{limbs.Of(4), 3, 0},
		{limbs.Of(4), 66, 0},
		{limbs.Of(4), 256, 0},
		{limbs.Of(1), 256, 0},
		{api.Num{}, 0, 0},
		{power(255), 255, 1},
		{power(255), 254, 0},
	} {
		if got := limbs.Bit(c.a, c.i); got != c.want {
			t.Errorf("Bit(%x, %d): %d, not %d", c.a, c.i, got, c.want)
		}
	}
	for _, a := range longs() {
		for i := range allBits {
			if got, want := limbs.Bit(a, i), bigOf(a).Bit(i); got != want {
				t.Errorf("Bit(%x, %d): %d, not %d", a, i, got, want)
			}
		}
	}
}

// P2.1, R1
func TestBitThatIsNone(t *testing.T) {
	wrong := []int{math.MinInt, math.MinInt + 1, math.MinInt + 64, math.MinInt32, math.MaxInt32, math.MaxInt - 255, math.MaxInt - 1, math.MaxInt}
	for i := range 700 {
		wrong = append(wrong, -1-i, allBits+i)
	}
	for _, a := range longs() {
		for _, i := range wrong {
			if got := limbs.Bit(a, i); got != 0 {
				t.Errorf("Bit(%x, %d): %d", a, i, got)
			}
		}
	}
}

// P2.2
func TestAdd(t *testing.T) {
	for _, c := range []struct {
		a, b, sum api.Num
		over      uint64
	}{
		{highest(), limbs.Of(1), api.Num{}, 1},
		{limbs.Of(1), highest(), api.Num{}, 1},
		{highest(), highest(), api.Num{most - 1, most, most, most}, 1},
		{highest(), api.Num{}, highest(), 0},
		{api.Num{}, api.Num{}, api.Num{}, 0},
		{limbs.Of(2), limbs.Of(3), limbs.Of(5), 0},
		{limbs.Of(most), limbs.Of(1), power(64), 0},
		{api.Num{most, most, 0, 0}, limbs.Of(1), power(128), 0},
		{api.Num{most, most, most, 0}, limbs.Of(1), power(192), 0},
		{api.Num{most, 5, 6, 7}, api.Num{most, 1, 1, 1}, api.Num{most - 1, 7, 7, 8}, 0},
		{power(255), power(255), api.Num{}, 1},
		{power(255), api.Num{most, most, most, 1<<63 - 1}, highest(), 0},
	} {
		if sum, over := limbs.Add(c.a, c.b); sum != c.sum || over != c.over {
			t.Errorf("Add(%x, %x): %x, %d, not %x, %d", c.a, c.b, sum, over, c.sum, c.over)
		}
	}
	for _, a := range longs() {
		for _, b := range longs() {
			want := new(big.Int).Add(bigOf(a), bigOf(b))
			sum, over := limbs.Add(a, b)
			if sum != numOf(want) || over != uint64(want.Bit(allBits)) {
				t.Errorf("Add(%x, %x): %x, %d", a, b, sum, over)
			}
		}
	}
}

// P2.2
func TestSub(t *testing.T) {
	for _, c := range []struct {
		a, b, rest api.Num
		below      uint64
	}{
		{api.Num{}, limbs.Of(1), highest(), 1},
		{limbs.Of(1), limbs.Of(1), api.Num{}, 0},
		{limbs.Of(5), limbs.Of(3), limbs.Of(2), 0},
		{limbs.Of(3), limbs.Of(5), api.Num{most - 1, most, most, most}, 1},
		{api.Num{}, highest(), limbs.Of(1), 1},
		{highest(), highest(), api.Num{}, 0},
		{highest(), api.Num{}, highest(), 0},
		{api.Num{}, api.Num{}, api.Num{}, 0},
		{power(64), limbs.Of(1), limbs.Of(most), 0},
		{power(192), limbs.Of(1), api.Num{most, most, most, 0}, 0},
		{api.Num{0, 5, 6, 7}, api.Num{1, 5, 6, 7}, highest(), 1},
		{api.Num{0, 5, 6, 7}, api.Num{1, 4, 6, 7}, limbs.Of(most), 0},
	} {
		if rest, below := limbs.Sub(c.a, c.b); rest != c.rest || below != c.below {
			t.Errorf("Sub(%x, %x): %x, %d, not %x, %d", c.a, c.b, rest, below, c.rest, c.below)
		}
	}
	for _, a := range longs() {
		for _, b := range longs() {
			want := new(big.Int).Sub(bigOf(a), bigOf(b))
			var wantBelow uint64
			if want.Sign() < 0 {
				want.Add(want, bigPower(allBits))
				wantBelow = 1
			}
			if rest, below := limbs.Sub(a, b); rest != numOf(want) || below != wantBelow {
				t.Errorf("Sub(%x, %x): %x, %d", a, b, rest, below)
			}
		}
	}
}

// P2.3
func TestMul(t *testing.T) {
	for _, c := range []struct{ a, b, low, high api.Num }{
		{power(128), power(128), api.Num{}, limbs.Of(1)},
		{api.Num{}, highest(), api.Num{}, api.Num{}},
		{limbs.Of(1), highest(), highest(), api.Num{}},
		{highest(), limbs.Of(2), api.Num{most - 1, most, most, most}, limbs.Of(1)},
		{highest(), highest(), limbs.Of(1), api.Num{most - 1, most, most, most}},
		{power(255), power(255), api.Num{}, power(254)},
		{limbs.Of(6), limbs.Of(7), limbs.Of(42), api.Num{}},
		{limbs.Of(most), limbs.Of(most), api.Num{1, most - 1, 0, 0}, api.Num{}},
		{api.Num{1, 2, 3, 4}, limbs.Of(2), api.Num{2, 4, 6, 8}, api.Num{}},
		{api.Num{1, 2, 3, 4}, api.Num{5, 6, 7, 8}, api.Num{5, 16, 34, 60}, api.Num{61, 52, 32, 0}},
	} {
		if low, high := limbs.Mul(c.a, c.b); low != c.low || high != c.high {
			t.Errorf("Mul(%x, %x): %x, %x, not %x, %x", c.a, c.b, low, high, c.low, c.high)
		}
	}
	for _, a := range longs() {
		for _, b := range longs() {
			want := new(big.Int).Mul(bigOf(a), bigOf(b))
			low, high := limbs.Mul(a, b)
			if low != numOf(want) || high != numOf(want.Rsh(want, allBits)) {
				t.Errorf("Mul(%x, %x): %x, %x", a, b, low, high)
			}
		}
	}
}

// P2.3: each of the 512 bits.
func TestMulOfPowers(t *testing.T) {
	for i := range allBits {
		for j := range allBits {
			var low, high api.Num
			if i+j < allBits {
				low = power(i + j)
			} else {
				high = power(i + j - allBits)
			}
			if l, h := limbs.Mul(power(i), power(j)); l != low || h != high {
				t.Errorf("2^%d times 2^%d: %x, %x", i, j, l, h)
			}
		}
	}
}

// P2.4
func TestShift(t *testing.T) {
	for _, c := range []struct {
		a    api.Num
		n    int
		want api.Num
	}{
		{limbs.Of(5), 64, api.Num{0, 5, 0, 0}},
		{power(255), -255, limbs.Of(1)},
		{limbs.Of(1), 255, power(255)},
		{limbs.Of(3), 255, power(255)},
		{limbs.Of(5), 0, limbs.Of(5)},
		{highest(), 0, highest()},
		{highest(), 1, api.Num{most - 1, most, most, most}},
		{highest(), -1, api.Num{most, most, most, 1<<63 - 1}},
		{highest(), 256, api.Num{}},
		{highest(), -256, api.Num{}},
		{api.Num{1, 2, 3, 4}, 64, api.Num{0, 1, 2, 3}},
		{api.Num{1, 2, 3, 4}, 128, api.Num{0, 0, 1, 2}},
		{api.Num{1, 2, 3, 4}, 192, api.Num{0, 0, 0, 1}},
		{api.Num{1, 2, 3, 4}, -64, api.Num{2, 3, 4, 0}},
		{api.Num{1, 2, 3, 4}, -128, api.Num{3, 4, 0, 0}},
		{api.Num{1, 2, 3, 4}, -192, api.Num{4, 0, 0, 0}},
		{limbs.Of(1 << 63), 1, power(64)},
		{power(64), -1, limbs.Of(1 << 63)},
		{api.Num{1 << 60, 1, 1 << 60, 1}, 68, api.Num{0, 0, 17, 0}},
		{api.Num{1, 17, 1, 17}, -68, api.Num{1<<60 | 1, 1 << 60, 1, 0}},
	} {
		if got := limbs.Shift(c.a, c.n); got != c.want {
			t.Errorf("Shift(%x, %d): %x, not %x", c.a, c.n, got, c.want)
		}
	}
	for _, a := range longs() {
		for n := range 2 * allBits {
			if got, want := limbs.Shift(a, n), numOf(new(big.Int).Lsh(bigOf(a), uint(n))); got != want {
				t.Errorf("Shift(%x, %d): %x, not %x", a, n, got, want)
			}
			if got, want := limbs.Shift(a, -n), numOf(new(big.Int).Rsh(bigOf(a), uint(n))); got != want {
				t.Errorf("Shift(%x, %d): %x, not %x", a, -n, got, want)
			}
		}
	}
}

// P2.4, R1
func TestShiftThatLeavesNothing(t *testing.T) {
	far := []int{math.MinInt, math.MinInt + 1, math.MinInt + 63, math.MinInt + 64, math.MinInt32, math.MaxInt32, math.MaxInt - 64, math.MaxInt - 63, math.MaxInt - 1, math.MaxInt}
	for n := range 9 {
		far = append(far, allBits+n, -allBits-n, allBits<<n, -allBits<<n)
	}
	for _, a := range longs() {
		for _, n := range far {
			if got := limbs.Shift(a, n); got != (api.Num{}) {
				t.Errorf("Shift(%x, %d): %x", a, n, got)
			}
		}
	}
}
