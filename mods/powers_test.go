package mods_test

import (
	"math/big"
	"testing"

	"balefire/api"
	"balefire/mods"
)

func checkExp(t *testing.T, a, n, m, want api.Num) {
	t.Helper()
	if got, e := mods.Exp(a, n, m); got != want || e != api.OK {
		t.Errorf("Exp(%x, %x, %x): %x, %d, not %x", a, n, m, got, e, want)
	}
}

func checkInv(t *testing.T, a, m, want api.Num) {
	t.Helper()
	if got, e := mods.Inv(a, m); got != want || e != api.OK {
		t.Errorf("Inv(%x, %x): %x, %d, not %x", a, m, got, e, want)
	}
}

// noInv: the error that is named, and nothing beside it.
func noInv(t *testing.T, a, m api.Num, want api.Errno) {
	t.Helper()
	if got, e := mods.Inv(a, m); got != (api.Num{}) || e != want {
		t.Errorf("Inv(%x, %x): %x, %d, not 0, %d", a, m, got, e, want)
	}
}

// P4.2: the chapter's Examples, and others that are told by hand.
func TestExp(t *testing.T) {
	for _, c := range []struct{ a, n, m, want api.Num }{
		{of(3), of(6), of(7), of(1)},
		{of(0), of(0), of(9), of(1)},
		{of(3), of(2), of(7), of(2)},
		{of(2), of(10), of(1001), of(23)},
		{of(2), of(10), of(1000), of(24)},
		{of(6), of(2), of(9), of(0)},
		{of(6), of(3), of(8), of(0)},
		{of(2), of(255), highest(), near(255, 0)},
		{of(2), of(256), highest(), of(1)},
		{of(2), of(256), near(256, -2), of(2)},
		{of(2), of(256), near(255, 1), near(255, -1)},
		{of(2), of(510), near(255, 1), of(1)},
		{of(2), of(255), near(255, 0), of(0)},
		{of(2), of(254), near(255, 0), near(254, 0)},
		{near(256, -2), of(2), highest(), of(1)},
		{near(256, -2), of(3), highest(), near(256, -2)},
		{near(256, -3), highest(), near(256, -2), near(256, -3)},
	} {
		checkExp(t, c.a, c.n, c.m, c.want)
	}
}

// exponents: short ones, those at the words' ends, and some of 256 bits; they need not be below m.
func exponents(m api.Num) []api.Num {
	l := []api.Num{of(0), of(1), of(2), of(3), of(5), of(16), m, more(m, -1), near(64, -1), near(64, 0), near(192, 1), near(255, 0), near(256, -2), highest()}
	return append(l, random(5, highest(), 2)...)
}

// P4.2
func TestExpOfMany(t *testing.T) {
	for _, m := range moduli() {
		for _, a := range below(m) {
			for _, n := range exponents(m) {
				checkExp(t, a, n, m, numOf(new(big.Int).Exp(bigOf(a), bigOf(n), bigOf(m))))
			}
		}
	}
}

// P4.2: likewise by what nobody picked, odd and even.
func TestExpByRandomOnes(t *testing.T) {
	for i, m := range random(42, highest(), 100) {
		for _, a := range random(int64(i), m, 3) {
			for _, n := range random(int64(i), highest(), 3) {
				checkExp(t, a, n, m, numOf(new(big.Int).Exp(bigOf(a), bigOf(n), bigOf(m))))
			}
		}
	}
}

// P4.2: a power is multiplied so often, by whatever goes round by small ones.
func TestExpOfSmallOnes(t *testing.T) {
	for m := uint64(2); m < 40; m++ {
		for a := range m {
			power := uint64(1)
			for n := range 2 * m {
				checkExp(t, of(a), of(n), of(m), of(power))
				power = power * a % m
			}
		}
	}
}

// P4.2: each bit of the exponent counts: it squares so often.
func TestEachBitOfAnExponent(t *testing.T) {
	for _, m := range []api.Num{near(256, -189), near(256, -2), highest(), near(64, -59), of(257), of(30030)} {
		square := more(m, -5)
		for i := range allBits {
			checkExp(t, more(m, -5), near(i, 0), m, square)
			square = rest(new(big.Int).Mul(bigOf(square), bigOf(square)), m)
		}
	}
}

// P4.2: the 0-th power is 1, the first one the number; those of 0 and of 1 stay.
func TestExpThatStays(t *testing.T) {
	for _, m := range moduli() {
		for _, a := range below(m) {
			checkExp(t, a, of(0), m, of(1))
			checkExp(t, a, of(1), m, a)
		}
		for _, n := range exponents(m) {
			checkExp(t, of(1), n, m, of(1))
			if n != of(0) {
				checkExp(t, of(0), n, m, of(0))
			}
		}
	}
}

// P4.2: by a prime the m-th power is the number again, and the one before it is 1 (but of 0).
func TestExpByPrimes(t *testing.T) {
	for _, m := range primes() {
		for _, a := range below(m) {
			checkExp(t, a, m, m, a)
			if a != of(0) {
				checkExp(t, a, more(m, -1), m, of(1))
			}
		}
	}
}

// P4.2: each row is the chapter's, or told by hand.
func TestInv(t *testing.T) {
	for _, c := range []struct{ a, m, want api.Num }{
		{of(3), of(7), of(5)},
		{of(1), of(2), of(1)},
		{of(2), of(7), of(4)},
		{of(3), of(4), of(3)},
		{of(5), of(12), of(5)},
		{of(7), of(10), of(3)},
		{of(2), highest(), near(255, 0)},
		{near(255, 0), highest(), of(2)},
		{near(128, 0), highest(), near(128, 0)},
		{of(2), near(255, 1), api.Num{1, 0, 0, 1 << 62}},
		{of(3), near(255, 0), api.Num{0xaaaaaaaaaaaaaaab, 0xaaaaaaaaaaaaaaaa, 0xaaaaaaaaaaaaaaaa, 0x2aaaaaaaaaaaaaaa}},
	} {
		checkInv(t, c.a, c.m, c.want)
	}
	noInv(t, of(2), of(4), api.ErrNone)
	noInv(t, of(0), of(5), api.ErrNone)
}

// P4.2: there is one for what has nothing but 1 in common with m, and for nothing else.
func TestInvOfMany(t *testing.T) {
	for _, m := range moduli() {
		for _, a := range below(m) {
			if want := new(big.Int).ModInverse(bigOf(a), bigOf(m)); want != nil {
				checkInv(t, a, m, numOf(want))
			} else {
				noInv(t, a, m, api.ErrNone)
			}
		}
	}
}

// P4.2: likewise by what nobody picked.
func TestInvByRandomOnes(t *testing.T) {
	for i, m := range random(43, highest(), 300) {
		for _, a := range random(int64(i), m, 10) {
			if want := new(big.Int).ModInverse(bigOf(a), bigOf(m)); want != nil {
				checkInv(t, a, m, numOf(want))
			} else {
				noInv(t, a, m, api.ErrNone)
			}
		}
	}
}

// P4.2, P4.3: of small ones all are tried: where one leaves 1 it is the answer, and the only one.
func TestInvOfSmallOnes(t *testing.T) {
	for m := uint64(2); m < 80; m++ {
		for a := range m {
			var found []uint64
			for x := range m {
				if a*x%m == 1 {
					found = append(found, x)
				}
			}
			switch len(found) {
			case 0:
				noInv(t, of(a), of(m), api.ErrNone)
			case 1:
				checkInv(t, of(a), of(m), of(found[0]))
			default:
				t.Errorf("%d by %d: %v", a, m, found)
			}
		}
	}
}

// P4.2: 1 and m less 1 are their own; 0 has none.
func TestInvAtBothEnds(t *testing.T) {
	for _, m := range moduli() {
		checkInv(t, of(1), m, of(1))
		checkInv(t, more(m, -1), m, more(m, -1))
		noInv(t, of(0), m, api.ErrNone)
	}
}

// P4.2, R2: who has a factor of m has none; by a prime that is nobody but 0.
func TestInvOfWhatHasMoreInCommon(t *testing.T) {
	for _, c := range []struct{ a, m api.Num }{
		{of(3), of(9)}, {of(6), of(9)}, {of(6), of(8)}, {of(4), of(8)}, {of(10), of(15)}, {of(14), of(49)}, {of(77), of(30030)},
		{of(2), near(256, -2)}, {near(255, -1), near(256, -2)}, {of(3), highest()}, {of(5), highest()}, {of(most), highest()}, {near(128, 1), highest()}, {near(128, -1), highest()},
		{near(254, 0), near(255, 0)}, {near(64, 0), near(255, 0)}, {near(64, 0), near(192, 0)}, {of(3), near(255, 1)}, {of(6), near(255, 1)},
	} {
		noInv(t, c.a, c.m, api.ErrNone)
	}
	for _, m := range primes() {
		for _, a := range below(m) {
			if _, e := mods.Inv(a, m); (e == api.OK) != (a != of(0)) {
				t.Errorf("Inv(%x, %x): %d", a, m, e)
			}
		}
	}
}

// failsBoth: neither a power nor an inverse, and nothing beside the error.
func failsBoth(t *testing.T, a, n, m api.Num) {
	t.Helper()
	if got, e := mods.Exp(a, n, m); got != (api.Num{}) || e != api.ErrArg {
		t.Errorf("Exp(%x, %x, %x): %x, %d", a, n, m, got, e)
	}
	noInv(t, a, m, api.ErrArg)
}

// P4.2, R2: by 0 and by 1 nothing goes round, whatever else is handed in.
func TestBothByNoughtAndOne(t *testing.T) {
	for _, m := range []api.Num{of(0), of(1)} {
		for _, a := range anything() {
			for _, n := range anything() {
				failsBoth(t, a, n, m)
			}
		}
	}
}

// P4.2, R2: m itself and what is above it, also where it has more than 1 in common with m.
func TestBothOfWhatIsNotBelow(t *testing.T) {
	for _, m := range moduli() {
		for _, a := range tooGreat(m) {
			for _, n := range anything() {
				failsBoth(t, a, n, m)
			}
		}
	}
	failsBoth(t, of(6), of(1), of(4))
	failsBoth(t, of(9), of(0), of(4))
}
