package divides_test

import (
	"math/big"
	"testing"

	"balefire/api"
	"balefire/divides"
)

func checkDiv(t *testing.T, a, b, q, r api.Num) {
	t.Helper()
	if q2, r2, e := divides.Div(a, b); q2 != q || r2 != r || e != api.OK {
		t.Errorf("Div(%x, %x): %x, %x, %d, not %x, %x", a, b, q2, r2, e, q, r)
	}
}

// P3.1: the chapter's Examples, and others that are told by hand.
func TestDiv(t *testing.T) {
	for _, c := range []struct{ a, b, q, r api.Num }{
		{of(17), of(5), of(3), of(2)},
		{power(200), power(100), power(100), api.Num{}},
		{of(15), of(5), of(3), api.Num{}},
		{of(4), of(5), api.Num{}, of(4)},
		{api.Num{}, of(5), api.Num{}, api.Num{}},
		{api.Num{}, highest(), api.Num{}, api.Num{}},
		{highest(), of(2), near(255, -1), of(1)},
		{highest(), of(most), api.Num{1, 1, 1, 1}, api.Num{}},
		{highest(), near(128, -1), near(128, 1), api.Num{}},
		{highest(), near(128, 1), near(128, -1), api.Num{}},
		{highest(), power(255), of(1), near(255, -1)},
		{highest(), near(256, -2), of(1), of(1)},
		{near(256, -2), highest(), api.Num{}, near(256, -2)},
		{near(255, 0), near(255, 1), api.Num{}, near(255, 0)},
		{near(255, 1), near(255, 0), of(1), of(1)},
		{power(64), of(most), of(1), of(1)},
		{power(128), near(64, 1), of(most), of(1)},
		{power(255), of(3), api.Num{0xaaaaaaaaaaaaaaaa, 0xaaaaaaaaaaaaaaaa, 0xaaaaaaaaaaaaaaaa, 0x2aaaaaaaaaaaaaaa}, of(2)},
		{api.Num{1, 2, 3, 4}, power(64), api.Num{2, 3, 4, 0}, of(1)},
		{api.Num{1, 2, 3, 4}, power(128), api.Num{3, 4, 0, 0}, api.Num{1, 2, 0, 0}},
		{api.Num{1, 2, 3, 4}, power(192), api.Num{4, 0, 0, 0}, api.Num{1, 2, 3, 0}},
		{api.Num{1, 2, 3, 4}, api.Num{0, 0, 0, 4}, of(1), api.Num{1, 2, 3, 0}},
		{api.Num{1, 2, 3, 4}, api.Num{0, 0, 0, 5}, api.Num{}, api.Num{1, 2, 3, 4}},
	} {
		checkDiv(t, c.a, c.b, c.q, c.r)
	}
}

// P3.1
func TestDivOfMany(t *testing.T) {
	for _, a := range longs() {
		for _, b := range longs() {
			if b == (api.Num{}) {
				continue
			}
			q, r := new(big.Int).QuoRem(bigOf(a), bigOf(b), new(big.Int))
			checkDiv(t, a, b, numOf(q), numOf(r))
		}
	}
}

// P3.1, R2: and nothing beside the error.
func TestDivByNought(t *testing.T) {
	for _, a := range longs() {
		if q, r, e := divides.Div(a, api.Num{}); q != (api.Num{}) || r != (api.Num{}) || e != api.ErrArg {
			t.Errorf("Div(%x, 0): %x, %x, %d", a, q, r, e)
		}
	}
}

// P3.1: by one, by itself, by a greater number.
func TestDivByOneItselfAndGreater(t *testing.T) {
	for _, a := range longs() {
		checkDiv(t, a, of(1), a, api.Num{})
		if a != (api.Num{}) {
			checkDiv(t, a, a, of(1), api.Num{})
		}
		for _, b := range longs() {
			if bigOf(a).Cmp(bigOf(b)) < 0 {
				checkDiv(t, a, b, api.Num{}, a)
			}
		}
	}
}

// P3.1: by powers of two the bits part, at each place.
func TestDivByPowersOfTwo(t *testing.T) {
	for _, a := range longs() {
		for i := range allBits {
			q := new(big.Int).Rsh(bigOf(a), uint(i))
			r := new(big.Int).Sub(bigOf(a), new(big.Int).Lsh(q, uint(i)))
			checkDiv(t, a, power(i), numOf(q), numOf(r))
		}
	}
}

// P3.1: what is left is as great or as small as it may be: b less one, none, one.
func TestDivAroundMultiples(t *testing.T) {
	for _, b := range longs() {
		for _, q := range longs() {
			m := new(big.Int).Mul(bigOf(b), bigOf(q))
			if m.Sign() == 0 || m.BitLen() > allBits {
				continue
			}
			checkDiv(t, numOf(m), b, q, api.Num{})
			less := new(big.Int).Sub(bigOf(q), big.NewInt(1))
			left := new(big.Int).Sub(bigOf(b), big.NewInt(1))
			checkDiv(t, numOf(new(big.Int).Sub(m, big.NewInt(1))), b, numOf(less), numOf(left))
			if b != of(1) && m.Cmp(bigOf(highest())) < 0 {
				checkDiv(t, numOf(new(big.Int).Add(m, big.NewInt(1))), b, q, of(1))
			}
		}
	}
}

func checkWide(t *testing.T, low, high, m, want api.Num) {
	t.Helper()
	if got, e := divides.Wide(low, high, m); got != want || e != api.OK {
		t.Errorf("Wide(%x, %x, %x): %x, %d, not %x", low, high, m, got, e, want)
	}
}

// P3.2: the chapter's Examples, and others that are told by hand.
func TestWide(t *testing.T) {
	for _, c := range []struct{ low, high, m, want api.Num }{
		{of(5), of(1), power(255), of(5)},
		{of(1), of(3), of(7), api.Num{}},
		{of(17), api.Num{}, of(5), of(2)},
		{api.Num{}, api.Num{}, of(5), api.Num{}},
		{highest(), highest(), of(1), api.Num{}},
		{highest(), highest(), of(2), of(1)},
		{highest(), highest(), highest(), api.Num{}},
		{api.Num{}, of(1), highest(), of(1)},
		{api.Num{}, highest(), highest(), api.Num{}},
		{highest(), api.Num{}, highest(), api.Num{}},
		{highest(), near(256, -2), highest(), near(256, -2)},
		{api.Num{}, near(256, -2), highest(), near(256, -2)},
		{highest(), highest(), near(256, -2), of(3)},
		{api.Num{}, of(1), near(256, -2), of(2)},
		{api.Num{}, of(1), power(255), api.Num{}},
		{api.Num{}, of(1), near(255, 1), near(255, -1)},
		{of(1), of(1), near(255, 1), near(255, 0)},
		{of(2), of(1), near(255, 1), api.Num{}},
		{api.Num{}, power(255), near(255, 1), of(2)},
		{api.Num{}, power(255), of(3), of(2)},
		{api.Num{7, 0, 0, 0}, api.Num{0, 0, 0, 9}, power(64), of(7)},
	} {
		checkWide(t, c.low, c.high, c.m, c.want)
	}
}

// P3.2
func TestWideOfMany(t *testing.T) {
	parts := append(ends(), random(32, 10)...)
	for _, low := range parts {
		for _, high := range parts {
			all := bigWide(low, high)
			for _, m := range longs() {
				if m != (api.Num{}) {
					checkWide(t, low, high, m, numOf(new(big.Int).Rem(all, bigOf(m))))
				}
			}
		}
	}
}

// P3.2, R2: and nothing beside the error.
func TestWideByNought(t *testing.T) {
	for _, low := range longs() {
		for _, high := range longs() {
			if got, e := divides.Wide(low, high, api.Num{}); got != (api.Num{}) || e != api.ErrArg {
				t.Errorf("Wide(%x, %x, 0): %x, %d", low, high, got, e)
			}
		}
	}
}

// P3.2: each of the 512 bits counts, also where m is so great that twice what is left goes beyond 2^256.
func TestWideOfEachBit(t *testing.T) {
	by := []api.Num{of(3), of(7), of(most), near(64, 1), near(128, 1), near(192, -1), near(255, -1), near(255, 0), near(255, 1), api.Num{5, 6, 7, 1<<63 | 8}, near(256, -2), highest()}
	for _, m := range by {
		for i := range 2 * allBits {
			var part [2]api.Num
			part[i/allBits] = power(i % allBits)
			checkWide(t, part[0], part[1], m, numOf(new(big.Int).Rem(bigPower(i), bigOf(m))))
		}
	}
}

// P3.2: the high part above, at and below m, beside it and far from it.
func TestWideWithTheHighPartAroundM(t *testing.T) {
	for _, m := range longs() {
		if m == (api.Num{}) {
			continue
		}
		for _, more := range []int64{-2, -1, 0, 1, 2} {
			around := new(big.Int).Add(bigOf(m), big.NewInt(more))
			if around.Sign() < 0 || around.BitLen() > allBits {
				continue
			}
			for _, low := range longs() {
				all := bigWide(low, numOf(around))
				checkWide(t, low, numOf(around), m, numOf(all.Rem(all, bigOf(m))))
			}
		}
	}
}

// P3.2: what is left is none, or one less than m.
func TestWideAroundMultiples(t *testing.T) {
	for _, m := range longs() {
		for _, q := range longs() {
			all := new(big.Int).Mul(bigOf(m), bigOf(q))
			if all.Sign() == 0 {
				continue
			}
			checkWide(t, numOf(all), numOf(new(big.Int).Rsh(all, allBits)), m, api.Num{})
			all.Sub(all, big.NewInt(1))
			left := numOf(new(big.Int).Sub(bigOf(m), big.NewInt(1)))
			checkWide(t, numOf(all), numOf(new(big.Int).Rsh(all, allBits)), m, left)
		}
	}
}
