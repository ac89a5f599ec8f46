package groups_test

import (
	"math/big"
	"testing"

	"balefire/api"
	"balefire/groups"
)

func checkIn(t *testing.T, g api.Group, a api.Num, want bool) {
	t.Helper()
	if got := groups.In(g, a); got != want {
		t.Errorf("In(%d, %d, %d): %t", bigOf(g.P), bigOf(g.Q), bigOf(a), got)
	}
}

// P8.2: the chapter's Examples, and all others there.
func TestIn(t *testing.T) {
	g := example().g
	checkIn(t, g, of(4), true)
	checkIn(t, g, of(5), false)
	checkIn(t, g, of(0), false)
	is := [23]bool{1: true, 2: true, 3: true, 4: true, 6: true, 8: true, 9: true, 12: true, 13: true, 16: true, 18: true}
	for a := range uint64(100) {
		checkIn(t, g, of(a), a < 23 && is[a])
	}
}

// P8.2: all numbers of all small groups, and above, by all orders, be they prime or not; by 0 whatever may be multiplied is in.
func TestInOfAllSmallOnes(t *testing.T) {
	for p := range uint64(45) {
		for q := range uint64(50) {
			g := api.Group{P: of(p), Q: of(q)}
			for a := range p + 4 {
				checkIn(t, g, of(a), p > 1 && a > 0 && a < p && powerOf(a, q, p) == 1)
			}
			checkIn(t, g, highest(), false)
		}
	}
}

// P8.2: by P 0 and 1 nothing is.
func TestInByNoughtAndOne(t *testing.T) {
	for _, p := range []api.Num{of(0), of(1)} {
		for _, q := range []api.Num{of(0), of(1), of(2), of(11), highest()} {
			for _, a := range []api.Num{of(0), of(1), of(2), {0, 1}, highest()} {
				checkIn(t, api.Group{P: p, Q: q, G: a, H: a}, a, false)
			}
		}
	}
}

// P8.2: the powers of a generator are, and only they.
func TestInOfGreatOnes(t *testing.T) {
	for i, m := range great(t) {
		p, q := bigOf(m.g.P), bigOf(m.g.Q)
		for _, n := range append(random(int64(i), m.g.Q, 10), of(0), of(1), of(2)) {
			a := new(big.Int).Exp(bigOf(m.g.G), bigOf(n), p)
			checkIn(t, m.g, numOf(a), true)
			if round := new(big.Int).Add(a, p); round.BitLen() <= allBits {
				checkIn(t, m.g, numOf(round), false)
			}
			if q.Bit(0) == 1 {
				checkIn(t, m.g, numOf(a.Sub(p, a)), false)
			}
		}
		for _, a := range append(random(int64(i), m.g.P, 20), of(2), of(3), of(4), more(m.g.P, -1), more(m.g.P, -2)) {
			checkIn(t, m.g, a, isIn(m.g, a))
		}
		for _, a := range []api.Num{of(0), m.g.P, more(m.g.P, 1), highest()} {
			checkIn(t, m.g, a, false)
		}
	}
}

// P8.2: by great numbers that are not prime, and by orders of all kinds: 0, 1, even ones, and what a power of a number can't be.
func TestInByGreatOnesThatAreNotPrime(t *testing.T) {
	orders := []api.Num{of(0), of(1), of(2), of(4), of(6), of(211), {0, 1}, {0, 0, 0, 1}, highest()}
	moduli := []api.Num{highest(), more(highest(), -1), {0, 0, 0, 1 << 63}, {1, 0, 1}, {3, 2, 1}, {0, 1}, of(most), example().g.P, great(t)[0].g.P}
	in, out := 0, 0
	for i, p := range moduli {
		l := append(random(int64(i), p, 6), of(0), of(1), of(2), of(3), of(5), p, more(p, -1), more(p, -2), highest())
		for _, q := range append(orders, p, more(p, -1)) {
			g := api.Group{P: p, Q: q}
			for _, a := range l {
				checkIn(t, g, a, isIn(g, a))
				if isIn(g, a) {
					in++
				} else {
					out++
				}
			}
		}
	}
	if in < 100 || out < 100 {
		t.Errorf("%d are, %d are not", in, out)
	}
}

// P8.2: whatever else is in the group is not asked.
func TestInAsksForPAndQAlone(t *testing.T) {
	for _, m := range all(t) {
		for _, a := range []api.Num{of(1), of(2), m.g.G, m.g.H, more(m.g.P, -1)} {
			for _, other := range []api.Num{of(0), of(1), m.g.P, highest()} {
				checkIn(t, api.Group{P: m.g.P, Q: m.g.Q, G: other, H: other}, a, isIn(m.g, a))
			}
		}
	}
}
