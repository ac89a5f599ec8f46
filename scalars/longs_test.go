package scalars_test

import (
	"math"
	"math/big"
	"math/rand"

	"balefire/api"
)

const most = math.MaxUint64

func of(n uint64) api.Num { return api.Num{n} }

func highest() api.Num { return api.Num{most, most, most, most} }

// near: 2 to the power of i, and so much more (or, below 0, less).
func near(i uint, by int64) api.Num {
	n := new(big.Int).Lsh(big.NewInt(1), i)
	return numOf(n.Add(n, big.NewInt(by)))
}

func bigOf(n api.Num) *big.Int {
	out := new(big.Int)
	for i := api.Words - 1; i >= 0; i-- {
		out.Lsh(out, 64).Or(out, new(big.Int).SetUint64(n[i]))
	}
	return out
}

// numOf: the lowest 256 bits.
func numOf(b *big.Int) api.Num {
	word := new(big.Int).SetUint64(most)
	var n api.Num
	for i := range n {
		part := new(big.Int).Rsh(b, uint(64*i))
		n[i] = part.And(part, word).Uint64()
	}
	return n
}

// more: so much more than n (or, below 0, less), round 2^256.
func more(n api.Num, by int64) api.Num {
	return numOf(new(big.Int).Add(bigOf(n), big.NewInt(by)))
}

// rest: what is left of n by q, from 0 on; 0, if q is 0.
func rest(n *big.Int, q api.Num) api.Num {
	if q == of(0) {
		return of(0)
	}
	return numOf(new(big.Int).Mod(n, bigOf(q)))
}

// random: numbers below q, always the same ones of one seed.
func random(seed int64, q api.Num, many int) []api.Num {
	some := rand.New(rand.NewSource(seed))
	var l []api.Num
	for range many {
		l = append(l, numOf(new(big.Int).Rand(some, bigOf(q))))
	}
	return l
}

// by: a group of which nothing but Q may be.
func by(q api.Num) api.Group { return api.Group{Q: q} }

// example: the chapter's Q, in the group of the chapter ahead of it.
func example() api.Group { return api.Group{P: of(23), Q: of(11), G: of(4), H: of(9)} }

// primes: of one word, at the words' ends, and of four words.
func primes() []api.Num {
	return []api.Num{
		of(2), of(3), of(11), of(257), of(4294967291), near(61, -1), near(63, -25), near(63, 29), near(64, -59), near(64, 13), near(127, -1), near(128, -159), near(255, -19), near(256, -189),
		{0xbfd25e8cd0364141, 0xbaaedce6af48a03b, 0xfffffffffffffffe, most},
	}
}

// composites: even and odd ones, powers, products of primes, and what stands at the words' ends.
func composites() []api.Num {
	return []api.Num{
		of(4), of(9), of(12), of(15), of(30030), near(32, 0), near(62, 0), near(63, -1), near(63, 0), near(63, 1), of(most - 1), of(most), near(64, 0), near(64, 1), near(65, 2), near(128, 0), near(192, -1),
		near(254, 6), near(255, 0), near(255, 1), near(256, -2), highest(), {1, 2, 3, 4}, {0, 0, 12, 1 << 63}, {most, 0, most, 0}, {5, 6, 7, 1<<63 | 8},
	}
}

// orders: all by which numbers go round.
func orders() []api.Num { return append(primes(), composites()...) }

// numbers: those below q at both ends, around the half, at the words' ends, and others; behind them those that are not below it.
func numbers(q api.Num) []api.Num {
	half := numOf(new(big.Int).Rsh(bigOf(q), 1))
	l := []api.Num{of(0), of(1), of(2), of(3), more(q, -1), more(q, -2), half, more(half, 1), of(most), near(64, 0), near(255, 0)}
	return append(append(l, random(int64(q[0]), q, 4)...), tooGreat(q)...)
}

// tooGreat: q, what stands behind it, and the highest number.
func tooGreat(q api.Num) []api.Num {
	l := []api.Num{q, highest()}
	if q != highest() {
		l = append(l, more(q, 1))
	}
	return l
}
