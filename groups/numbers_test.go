package groups_test

import (
	"math/big"
	"testing"

	"balefire/api"
	"balefire/groups"
)

// by: what goes round by p alone.
func by(p api.Num) api.Group { return api.Group{P: p} }

// moduli: small and great ones, at the words' ends, prime or not, odd and even.
func moduli(t *testing.T) []api.Num {
	t.Helper()
	l := []api.Num{
		of(2), of(3), of(4), of(9), of(12), of(15), of(23), of(30030), of(most), {0, 1}, {1, 1}, {0, 0, 1}, {3, 2, 1}, {0, 0, 12, 1 << 63}, {0, 0, 0, 1 << 63},
		{most, most, most, 1<<63 - 1}, {5, 6, 7, 1<<63 | 8}, more(highest(), -1), highest(), numOf(near(255, 1, -19)), numOf(near(256, 1, -189)),
	}
	for _, m := range great(t) {
		l = append(l, m.g.P)
	}
	return l
}

// numbers: those at both ends of what may be multiplied, beyond them, around the half, at the words' ends, and others.
func numbers(p api.Num) []api.Num {
	half := numOf(new(big.Int).Rsh(bigOf(p), 1))
	l := []api.Num{of(0), of(1), of(2), of(3), of(6), half, more(half, 1), more(p, -2), more(p, -1), p, more(p, 1), of(most), {0, 1}, {0, 0, 0, 1}, highest()}
	return append(l, random(int64(p[0]), p, 5)...)
}

// exponents: short and long ones; nothing is asked of them.
func exponents(q api.Num) []api.Num {
	return []api.Num{of(0), of(1), of(2), of(3), of(16), of(211), q, more(q, -1), more(q, 1), of(most), {0, 1}, {0, 0, 1}, {7, 0, 0, 1 << 63}, more(highest(), -1), highest()}
}

// wanted: what the chapter's words have, when big numbers tell it; nil: there is none.
func wanted(g api.Group, may bool, told *big.Int) (api.Num, api.Errno) {
	switch {
	case !may:
		return api.Num{}, api.ErrArg
	case told == nil:
		return api.Num{}, api.ErrNone
	}
	return numOf(told.Mod(told, bigOf(g.P))), api.OK
}

func checkMul(t *testing.T, g api.Group, a, b api.Num) {
	t.Helper()
	want, wrong := wanted(g, may(g, a) && may(g, b), new(big.Int).Mul(bigOf(a), bigOf(b)))
	if got, e := groups.Mul(g, a, b); got != want || e != wrong {
		t.Errorf("Mul(%x, %x, %x): %x, %d, not %x, %d", g.P, a, b, got, e, want, wrong)
	}
}

func checkInv(t *testing.T, g api.Group, a api.Num) {
	t.Helper()
	var told *big.Int
	if may(g, a) {
		told = new(big.Int).ModInverse(bigOf(a), bigOf(g.P))
	}
	want, wrong := wanted(g, may(g, a), told)
	if got, e := groups.Inv(g, a); got != want || e != wrong {
		t.Errorf("Inv(%x, %x): %x, %d, not %x, %d", g.P, a, got, e, want, wrong)
	}
}

func checkExp(t *testing.T, g api.Group, a, n api.Num) {
	t.Helper()
	told := new(big.Int)
	if may(g, a) {
		told.Exp(bigOf(a), bigOf(n), bigOf(g.P))
	}
	want, wrong := wanted(g, may(g, a), told)
	if got, e := groups.Exp(g, a, n); got != want || e != wrong {
		t.Errorf("Exp(%x, %x, %x): %x, %d, not %x, %d", g.P, a, n, got, e, want, wrong)
	}
}

// tells: that number, or that error, and nothing beside it.
func tells(t *testing.T, what string, n api.Num, e api.Errno, want uint64, wrong api.Errno) {
	t.Helper()
	if n != of(want) || e != wrong {
		t.Errorf("%s: %d, %d, not %d, %d", what, bigOf(n), e, want, wrong)
	}
}

// P8.3: the chapter's Examples, and others that are told by hand.
func TestMul(t *testing.T) {
	for _, c := range []struct {
		p, a, b, want uint64
		wrong         api.Errno
	}{
		{23, 4, 9, 13, 0}, {23, 1, 1, 1, 0}, {23, 22, 22, 1, 0}, {23, 5, 14, 1, 0}, {2, 1, 1, 1, 0}, {23, 22, 1, 22, 0},
		{23, 0, 4, 0, 1}, {23, 4, 0, 0, 1}, {23, 0, 0, 0, 1}, {23, 23, 4, 0, 1}, {23, 4, 23, 0, 1}, {23, 23, 23, 0, 1}, {23, 24, 4, 0, 1}, {23, 4, 24, 0, 1}, {23, 27, 32, 0, 1},
		{12, 3, 4, 0, 0}, {12, 5, 7, 11, 0}, {2, 1, 2, 0, 1}, {2, 2, 1, 0, 1}, {2, 0, 1, 0, 1}, {1, 1, 1, 0, 1}, {1, 0, 0, 0, 1}, {0, 1, 1, 0, 1}, {0, 0, 0, 0, 1},
	} {
		n, e := groups.Mul(by(of(c.p)), of(c.a), of(c.b))
		tells(t, "Mul", n, e, c.want, c.wrong)
	}
}

// P8.3
func TestInv(t *testing.T) {
	for _, c := range []struct {
		p, a, want uint64
		wrong      api.Errno
	}{
		{23, 4, 6, 0}, {23, 6, 4, 0}, {23, 1, 1, 0}, {23, 22, 22, 0}, {23, 5, 14, 0}, {2, 1, 1, 0}, {9, 2, 5, 0}, {12, 5, 5, 0}, {12, 11, 11, 0},
		{12, 3, 0, 7}, {12, 2, 0, 7}, {12, 10, 0, 7}, {9, 3, 0, 7}, {4, 2, 0, 7}, {6, 3, 0, 7}, {15, 10, 0, 7},
		{23, 0, 0, 1}, {23, 23, 0, 1}, {23, 24, 0, 1}, {23, 27, 0, 1}, {23, 46, 0, 1}, {12, 0, 0, 1}, {12, 12, 0, 1}, {12, 15, 0, 1}, {12, 14, 0, 1},
		{1, 0, 0, 1}, {1, 1, 0, 1}, {1, 2, 0, 1}, {0, 0, 0, 1}, {0, 1, 0, 1}, {0, 5, 0, 1},
	} {
		n, e := groups.Inv(by(of(c.p)), of(c.a))
		tells(t, "Inv", n, e, c.want, c.wrong)
	}
}

// P8.3
func TestExp(t *testing.T) {
	for _, c := range []struct {
		p, a, n, want uint64
		wrong         api.Errno
	}{
		{23, 4, 11, 1, 0}, {23, 4, 0, 1, 0}, {23, 4, 1, 4, 0}, {23, 4, 12, 4, 0}, {23, 4, 22, 1, 0}, {23, 4, 10, 6, 0}, {23, 5, 11, 22, 0}, {23, 5, 22, 1, 0}, {23, 22, 2, 1, 0}, {23, 1, most, 1, 0},
		{12, 6, 2, 0, 0}, {12, 6, 0, 1, 0}, {12, 2, 4, 4, 0}, {2, 1, 0, 1, 0}, {2, 1, 7, 1, 0},
		{23, 0, 0, 0, 1}, {23, 0, 1, 0, 1}, {23, 0, 11, 0, 1}, {23, 23, 0, 0, 1}, {23, 23, 1, 0, 1}, {23, 24, 11, 0, 1}, {23, 27, 11, 0, 1}, {12, 0, 2, 0, 1}, {12, 12, 0, 0, 1},
		{2, 0, 0, 0, 1}, {2, 2, 0, 0, 1}, {1, 0, 0, 0, 1}, {1, 1, 0, 0, 1}, {1, 2, 3, 0, 1}, {0, 0, 0, 0, 1}, {0, 1, 1, 0, 1}, {0, 7, 0, 0, 1},
	} {
		n, e := groups.Exp(by(of(c.p)), of(c.a), of(c.n))
		tells(t, "Exp", n, e, c.want, c.wrong)
	}
}

// P8.3: of all small ones, by what is prime and by what is not, and of those beyond.
func TestAllThreeOfSmallOnes(t *testing.T) {
	for p := range uint64(28) {
		g := by(of(p))
		for a := range p + 4 {
			checkInv(t, g, of(a))
			for b := range p + 4 {
				checkMul(t, g, of(a), of(b))
			}
			for n := range 2*p + 3 {
				checkExp(t, g, of(a), of(n))
			}
		}
	}
}

// P8.3: in each place by itself, and in both, also of numbers that may not be multiplied.
func TestAllThreeOfMany(t *testing.T) {
	for _, p := range append(moduli(t), of(0), of(1)) {
		g := by(p)
		l := numbers(of(1000))
		if p != of(0) {
			l = numbers(p)
		}
		for _, a := range l {
			checkInv(t, g, a)
			for _, b := range l {
				checkMul(t, g, a, b)
			}
			for _, n := range exponents(a) {
				checkExp(t, g, a, n)
			}
		}
	}
}

// P8.3: by groups that may be, whatever the exponent is: 0, 1, Q, above Q, and of 256 bits.
func TestExpInGroupsThatMayBe(t *testing.T) {
	for i, m := range all(t) {
		for _, n := range append(exponents(m.g.Q), random(int64(i), highest(), 5)...) {
			for _, a := range []api.Num{m.g.G, m.g.H, of(2), more(m.g.P, -1), of(0), m.g.P, more(m.g.P, 1)} {
				checkExp(t, m.g, a, n)
			}
		}
	}
}

// P8.3, R2: what may be multiplied and has more than 1 in common with P has no inverse; that it has none is not told of what may not be.
func TestInvWhereThereIsNone(t *testing.T) {
	p := new(big.Int).Mul(near(61, 1, -1), near(127, 1, -1))
	for _, times := range []int64{1, 2, 3, 77} {
		for _, prime := range []*big.Int{near(61, 1, -1), near(127, 1, -1)} {
			a := numOf(new(big.Int).Mul(prime, big.NewInt(times)))
			if n, e := groups.Inv(by(numOf(p)), a); n != (api.Num{}) || e != api.ErrNone {
				t.Errorf("Inv(%d): %d, %d", bigOf(a), bigOf(n), e)
			}
		}
	}
	for _, a := range []*big.Int{new(big.Int), p, new(big.Int).Add(p, near(61, 1, -1)), new(big.Int).Lsh(p, 1)} {
		if n, e := groups.Inv(by(numOf(p)), numOf(a)); n != (api.Num{}) || e != api.ErrArg {
			t.Errorf("Inv(%d): %d, %d", a, bigOf(n), e)
		}
	}
}

// P8.3: numbers are held against P, and against 0, by all of their words.
func TestWhatMayNotBeInOneWordAlone(t *testing.T) {
	p := api.Num{5, 5, 5, 5}
	g := by(p)
	for i := range p {
		above, below, alone := p, p, api.Num{}
		above[i]++
		below[i]--
		alone[i] = 1
		for _, a := range []api.Num{above, below, alone} {
			checkMul(t, g, a, of(1))
			checkMul(t, g, of(1), a)
			checkInv(t, g, a)
			checkExp(t, g, a, of(1))
			checkExp(t, g, of(7), a)
		}
	}
}

// P8.3: neither Q nor G nor H is asked, nor whether a number is of the group.
func TestAllThreeAskForPAlone(t *testing.T) {
	for _, m := range all(t) {
		for _, other := range []api.Num{of(0), of(1), m.g.P, highest()} {
			g := api.Group{P: m.g.P, Q: other, G: other, H: other}
			for _, a := range []api.Num{of(0), of(1), of(2), m.g.G, more(m.g.P, -1), m.g.P} {
				checkMul(t, g, a, m.g.G)
				checkMul(t, g, m.g.G, a)
				checkInv(t, g, a)
				checkExp(t, g, a, m.g.Q)
			}
		}
	}
}
