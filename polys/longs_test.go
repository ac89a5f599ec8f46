package polys_test

import (
	"math"
	"math/big"
	"math/rand"

	"balefire/api"
)

const most = math.MaxUint64

func of(n uint64) api.Num { return api.Num{n} }

func highest() api.Num { return api.Num{most, most, most, most} }

// list: small numbers.
func list(l ...uint64) []api.Num {
	var out []api.Num
	for _, n := range l {
		out = append(out, of(n))
	}
	return out
}

// near: 2 to the power of i, and so much more (or, below 0, less).
func near(i uint, by int64) api.Num {
	n := new(big.Int).Lsh(big.NewInt(1), i)
	return numOf(n.Add(n, big.NewInt(by)))
}

func bigOf(n api.Num) *big.Int {
	out := new(big.Int)
	for i := api.Words - 1; i >= 0; i-- {
		out.Lsh(out, 64).Or(out, new(big.Int).SetUint64(n[i]))
	}
	return out
}

// numOf: the lowest 256 bits.
func numOf(b *big.Int) api.Num {
	word := new(big.Int).SetUint64(most)
	var n api.Num
	for i := range n {
		part := new(big.Int).Rsh(b, uint(64*i))
		n[i] = part.And(part, word).Uint64()
	}
	return n
}

// more: so much more than n (or, below 0, less), round 2^256.
func more(n api.Num, by int64) api.Num {
	return numOf(new(big.Int).Add(bigOf(n), big.NewInt(by)))
}

// rest: what is left of n by q, from 0 on.
func rest(n *big.Int, q api.Num) api.Num { return numOf(new(big.Int).Mod(n, bigOf(q))) }

// by: a group of which nothing but Q may be.
func by(q api.Num) api.Group { return api.Group{Q: q} }

// primes: of one word, at the words' ends, and of four words.
func primes() []api.Num {
	return []api.Num{
		of(2), of(3), of(5), of(11), of(257), of(4294967291), near(61, -1), near(64, -59), near(64, 13), near(127, -1), near(255, -19), near(256, -189),
		{0xbfd25e8cd0364141, 0xbaaedce6af48a03b, 0xfffffffffffffffe, most},
	}
}

// composites: even and odd ones, powers, products of small primes and of great ones, and what stands at the words' ends.
func composites() []api.Num {
	return []api.Num{
		of(4), of(6), of(9), of(12), of(35), of(49), of(77), of(143), of(30030), near(32, 0), near(64, 0), of(most), near(64, 1), near(128, 0), near(255, 0), highest(), more(highest(), -1), {1, 2, 3, 4}, {5, 6, 7, 1<<63 | 8},
		ofTwoGreat(),
	}
}

// ofTwoGreat: the product of two great primes, so that small differences have inverses.
func ofTwoGreat() api.Num {
	return numOf(new(big.Int).Mul(bigOf(near(127, -1)), bigOf(near(128, -159))))
}

// orders: all by which numbers go round.
func orders() []api.Num { return append(primes(), composites()...) }

// nothingGoesRound: by these.
func nothingGoesRound() []api.Num { return list(0, 1) }

// others: groups of one Q, with all else unlike: nothing, what would refuse each number, what is no group.
func others(q api.Num) []api.Group {
	l := []api.Group{{P: of(23), Q: q, G: of(4), H: of(9)}, {P: q, Q: q, G: q, H: q}}
	for _, n := range []api.Num{of(0), of(1), of(2), highest()} {
		l = append(l, api.Group{P: n, Q: q}, api.Group{Q: q, G: n}, api.Group{Q: q, H: n})
	}
	return l
}

// tooGreat: q, what stands behind it, and the highest number.
func tooGreat(q api.Num) []api.Num {
	l := []api.Num{q, highest()}
	if q != highest() {
		l = append(l, more(q, 1))
	}
	return l
}

// ends: 0, 1, the half and its neighbour, one less than q and two less.
func ends(q api.Num) []api.Num {
	half := numOf(new(big.Int).Rsh(bigOf(q), 1))
	return []api.Num{of(0), of(1), half, rest(bigOf(more(half, 1)), q), more(q, -1), more(q, -2)}
}

// some: so many exponents.
func some(r *rand.Rand, q api.Num, many int) []api.Num {
	var l []api.Num
	for range many {
		l = append(l, numOf(new(big.Int).Rand(r, bigOf(q))))
	}
	return l
}

// unlike: at most so many exponents, no two alike; of a small q there are no more.
func unlike(r *rand.Rand, q api.Num, many int) []api.Num {
	seen := map[api.Num]bool{}
	var l []api.Num
	for range 5 * many {
		a := some(r, q, 1)[0]
		if len(l) < many && !seen[a] {
			seen[a] = true
			l = append(l, a)
		}
	}
	return l
}

// lists: all of so many numbers below that.
func lists(many int, below uint64) [][]api.Num {
	if many == 0 {
		return [][]api.Num{nil}
	}
	var out [][]api.Num
	for _, ahead := range lists(many-1, below) {
		for n := range below {
			out = append(out, append(append([]api.Num{}, ahead...), of(n)))
		}
	}
	return out
}
