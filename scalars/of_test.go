package scalars_test

import (
	"math"
	"math/big"
	"math/rand"
	"testing"

	"balefire/api"
	"balefire/scalars"
)

const (
	greatest = math.MaxInt64
	least    = math.MinInt64
)

func isOf(t *testing.T, g api.Group, n int64, want api.Num) {
	t.Helper()
	if got := scalars.Of(g, n); got != want {
		t.Errorf("Of(%x, %d): %x, not %x", g, n, got, want)
	}
}

// checkOf: as the promise's words have it, when big numbers tell it.
func checkOf(t *testing.T, g api.Group, n int64) {
	t.Helper()
	isOf(t, g, n, rest(big.NewInt(n), g.Q))
}

// P9.2: the second row of the chapter's Examples.
func TestExamplesOfWholeNumbers(t *testing.T) {
	isOf(t, example(), 14, of(3))
	isOf(t, example(), -1, of(10))
	isOf(t, example(), least, of(3))
}

// P9.2: told by hand.
func TestOfByHand(t *testing.T) {
	for _, r := range []struct {
		q    api.Num
		n    int64
		want api.Num
	}{
		{of(0), 0, of(0)}, {of(0), 1, of(0)}, {of(0), -1, of(0)}, {of(0), greatest, of(0)}, {of(0), least, of(0)},
		{of(1), 0, of(0)}, {of(1), 1, of(0)}, {of(1), -1, of(0)}, {of(1), greatest, of(0)}, {of(1), least, of(0)},
		{of(2), 0, of(0)}, {of(2), 1, of(1)}, {of(2), -1, of(1)}, {of(2), -2, of(0)}, {of(2), greatest, of(1)}, {of(2), least, of(0)},
		{of(11), 0, of(0)}, {of(11), 10, of(10)}, {of(11), 11, of(0)}, {of(11), 12, of(1)}, {of(11), -10, of(1)}, {of(11), -11, of(0)}, {of(11), -12, of(10)}, {of(11), greatest, of(7)}, {of(11), least + 1, of(4)},
		{near(63, -1), greatest, of(0)}, {near(63, -1), greatest - 1, near(63, -2)}, {near(63, -1), -greatest, of(0)}, {near(63, -1), least, near(63, -2)}, {near(63, -1), -1, near(63, -2)},
		{near(63, 0), greatest, near(63, -1)}, {near(63, 0), least, of(0)}, {near(63, 0), least + 1, of(1)}, {near(63, 0), -1, near(63, -1)}, {near(63, 0), 0, of(0)},
		{near(63, 1), greatest, near(63, -1)}, {near(63, 1), least, of(1)}, {near(63, 1), -1, near(63, 0)},
		{of(most), -1, of(most - 1)}, {of(most), least, near(63, -1)}, {of(most), greatest, near(63, -1)},
		{near(64, 0), -1, of(most)}, {near(64, 0), least, near(63, 0)}, {near(64, 0), greatest, near(63, -1)},
		{near(64, 1), -1, near(64, 0)}, {near(64, 1), least, near(63, 1)}, {near(64, 1), -2, of(most)},
		{api.Num{0, 0, 1}, -1, api.Num{most, most}}, {api.Num{0, 0, 1}, least, api.Num{1 << 63, most}},
		{highest(), 0, of(0)}, {highest(), 1, of(1)}, {highest(), -1, near(256, -2)}, {highest(), greatest, near(63, -1)}, {highest(), least, api.Num{1<<63 - 1, most, most, most}},
	} {
		isOf(t, by(r.q), r.n, r.want)
	}
}

// P9.2: of all small ones.
func TestOfSmallOnes(t *testing.T) {
	for q := int64(1); q < 40; q++ {
		for n := int64(-130); n <= 130; n++ {
			isOf(t, by(of(uint64(q))), n, of(uint64((n%q+q)%q)))
		}
	}
}

// wholes: small ones, both ends, powers of two, multiples of q, all of these with their neighbours, and others.
func wholes(q api.Num) []int64 {
	var l []int64
	around := func(n int64) {
		for _, by := range []int64{-1, 0, 1} {
			// Round 2^64 at both ends: whatever comes of it is a whole number, too.
			l = append(l, n+by, -n-by)
		}
	}
	for _, n := range []int64{0, 2, 7, 130, least, 1 << 31, 1 << 32, 1 << 53, 1 << 62} {
		around(n)
	}
	if bigOf(q).IsInt64() && q != of(0) {
		one := bigOf(q).Int64()
		for _, times := range []int64{1, 2, 3, 1000, greatest / one / 2, greatest / one} {
			if times <= greatest/one {
				around(one * times)
			}
		}
	}
	some := rand.New(rand.NewSource(int64(q[0])))
	for range 20 {
		l = append(l, int64(some.Uint64())>>some.Intn(64))
	}
	return l
}

// P9.2
func TestOfMany(t *testing.T) {
	for _, q := range append(orders(), of(0), of(1)) {
		for _, n := range wholes(q) {
			checkOf(t, by(q), n)
		}
	}
}

// P9.2: multiples of Q leave nothing, and their neighbours 1 and one less than Q.
func TestOfMultiples(t *testing.T) {
	for _, q := range []int64{2, 3, 11, 257, 4294967291, 1<<61 - 1, 1 << 62, greatest - 24, greatest} {
		g := by(of(uint64(q)))
		for _, times := range []int64{0, 1, 2, 3, greatest / q} {
			if times > greatest/q {
				continue
			}
			n := q * times
			isOf(t, g, n, of(0))
			isOf(t, g, -n, of(0))
			isOf(t, g, -n-1, of(uint64(q-1)))
			isOf(t, g, -n+1, of(1))
			isOf(t, g, n-1, of(uint64(q-1)))
			if n < greatest {
				isOf(t, g, n+1, of(1))
			}
		}
	}
}

// P9.2: each bit counts by itself, with all those below it, and with all those above it.
func TestEachBitOfAWholeNumber(t *testing.T) {
	for _, q := range append(orders(), of(1)) {
		for i := range 64 {
			one := int64(1) << i
			for _, n := range []int64{one, one - 1, -one, ^one, 1 - one} {
				checkOf(t, by(q), n)
			}
		}
	}
}

// P9.2: what is below Q is as it is.
func TestOfWhatIsBelow(t *testing.T) {
	for _, q := range orders() {
		for _, n := range wholes(q) {
			if n >= 0 && big.NewInt(n).Cmp(bigOf(q)) < 0 {
				isOf(t, by(q), n, of(uint64(n)))
				if n > 0 && q != highest() {
					isOf(t, by(q), -n, more(q, -n))
				}
			}
		}
	}
}

// P9.2: neither P nor G nor H is asked.
func TestOfAsksForQAlone(t *testing.T) {
	for _, q := range append(orders(), of(0), of(1)) {
		for _, g := range others(q) {
			for _, n := range []int64{0, 1, -1, 14, -14, greatest, least} {
				checkOf(t, g, n)
			}
		}
	}
}
