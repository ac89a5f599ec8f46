package mods_test

import (
	"math"
	"math/big"
	"math/rand"

	"balefire/api"
)

const (
	most    = math.MaxUint64
	allBits = 256
)

func of(n uint64) api.Num { return api.Num{n} }

func highest() api.Num { return api.Num{most, most, most, most} }

// near: 2 to the power of i, and so much more (or, below 0, less).
func near(i int, more int64) api.Num {
	n := new(big.Int).Lsh(big.NewInt(1), uint(i))
	return numOf(n.Add(n, big.NewInt(more)))
}

func bigOf(n api.Num) *big.Int {
	out := new(big.Int)
	for i := api.Words - 1; i >= 0; i-- {
		out.Lsh(out, 64).Or(out, new(big.Int).SetUint64(n[i]))
	}
	return out
}

// numOf: the lowest 256 bits.
func numOf(b *big.Int) api.Num {
	word := new(big.Int).SetUint64(most)
	var n api.Num
	for i := range n {
		part := new(big.Int).Rsh(b, uint(64*i))
		n[i] = part.And(part, word).Uint64()
	}
	return n
}

// more: so much more than n (or, below 0, less), round 2^256.
func more(n api.Num, by int64) api.Num {
	return numOf(new(big.Int).Add(bigOf(n), big.NewInt(by)))
}

// rest: what is left of b by m, from 0 on.
func rest(b *big.Int, m api.Num) api.Num { return numOf(b.Mod(b, bigOf(m))) }

// primes: small ones, others at the words' ends, and great ones of many and of few ones.
func primes() []api.Num {
	return []api.Num{
		of(2), of(3), of(5), of(7), of(11), of(23), of(257), of(65537), of(4294967291), of(4294967311),
		near(61, -1), near(64, -59), near(64, 13), near(127, -1), near(128, -159), near(255, -19), near(256, -189),
		{0xfffffffefffffc2f, most, most, most},
		{0xbfd25e8cd0364141, 0xbaaedce6af48a03b, 0xfffffffffffffffe, most},
	}
}

// composites: even and odd ones, powers, products of primes, and what stands at the words' ends.
func composites() []api.Num {
	return []api.Num{
		of(4), of(6), of(8), of(9), of(12), of(15), of(49), of(64), of(105), of(30030), of(most - 1), of(most),
		near(32, 0), near(63, 0), near(64, 0), near(64, 1), near(65, 2), near(127, 1), near(128, -1), near(128, 0), near(129, 6), near(192, -1), near(192, 0), near(193, 0),
		near(254, 6), near(255, -1), near(255, 0), near(255, 1), near(255, 2), near(256, -4), near(256, -3), near(256, -2), highest(),
		{1, 2, 3, 4}, {0, 0, 0, 1<<63 | 1}, {0, 0, 12, 1 << 63}, {most, 0, most, 0}, {0, most, 0, most}, {5, 6, 7, 1<<63 | 8},
	}
}

func moduli() []api.Num { return append(primes(), composites()...) }

// random: numbers below m, always the same ones of one seed.
func random(seed int64, m api.Num, many int) []api.Num {
	some := rand.New(rand.NewSource(seed))
	var l []api.Num
	for range many {
		l = append(l, numOf(new(big.Int).Rand(some, bigOf(m))))
	}
	return l
}

// below: numbers below m: the lowest and the highest of them, those around its half, at the words' ends, and others.
func below(m api.Num) []api.Num {
	half := numOf(new(big.Int).Rsh(bigOf(m), 1))
	l := []api.Num{of(0), of(1), of(2), of(3), of(6), more(m, -1), more(m, -2), more(m, -3), half, more(half, 1), more(half, -1)}
	for _, i := range []int{64, 128, 192, 255} {
		l = append(l, near(i, -1), near(i, 0), near(i, 1))
	}
	l = append(append(l, random(int64(m[0]), m, 6)...), api.Num{7, 0, 0, 7}, api.Num{most, most, 0, 1})
	var out []api.Num
	for _, n := range l {
		if bigOf(n).Cmp(bigOf(m)) < 0 {
			out = append(out, n)
		}
	}
	return out
}

// tooGreat: what is not below m: m, what stands behind it, and the highest number.
func tooGreat(m api.Num) []api.Num {
	l := []api.Num{m, highest()}
	if m != highest() {
		l = append(l, more(m, 1))
	}
	return l
}

// anything: numbers of which nothing is asked.
func anything() []api.Num {
	return []api.Num{of(0), of(1), of(2), of(3), of(7), near(64, 0), near(255, 0), near(256, -2), highest(), {1, 2, 3, 4}}
}
