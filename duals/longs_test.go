package duals_test

import (
	"math"
	"math/big"
	"math/rand"

	"balefire/api"
)

const most = math.MaxUint64

func of(n uint64) api.Num { return api.Num{n} }

func highest() api.Num { return api.Num{most, most, most, most} }

// list: small numbers.
func list(l ...uint64) []api.Num {
	var out []api.Num
	for _, n := range l {
		out = append(out, of(n))
	}
	return out
}

// near: 2 to the power of i, and so much more (or, below 0, less).
func near(i uint, by int64) api.Num {
	n := new(big.Int).Lsh(big.NewInt(1), i)
	return numOf(n.Add(n, big.NewInt(by)))
}

// digits: a number as it is written.
func digits(text string) api.Num {
	n, ok := new(big.Int).SetString(text, 10)
	if !ok {
		panic(text)
	}
	return numOf(n)
}

func bigOf(n api.Num) *big.Int {
	out := new(big.Int)
	for i := api.Words - 1; i >= 0; i-- {
		out.Lsh(out, 64).Or(out, new(big.Int).SetUint64(n[i]))
	}
	return out
}

// numOf: the lowest 256 bits.
func numOf(b *big.Int) api.Num {
	word := new(big.Int).SetUint64(most)
	var n api.Num
	for i := range n {
		part := new(big.Int).Rsh(b, uint(64*i))
		n[i] = part.And(part, word).Uint64()
	}
	return n
}

// more: so much more than n (or, below 0, less), round 2^256.
func more(n api.Num, by int64) api.Num {
	return numOf(new(big.Int).Add(bigOf(n), big.NewInt(by)))
}

// rest: what is left of n by q, from 0 on.
func rest(n *big.Int, q api.Num) api.Num { return numOf(new(big.Int).Mod(n, bigOf(q))) }

// by: a group of which nothing but Q may be.
func by(q api.Num) api.Group { return api.Group{Q: q} }

// orders: all by which numbers go round: no more than there may be nodes, and somewhat more; at the words' ends; prime or not.
func orders() []api.Num {
	l := list(2, 3, 4, 5, 6, 7, 8, 9, 10, 11, 12, 13, 14, 15, 25, 49, 77, 143, 257, 30030, 4294967291, most)
	return append(l, near(32, 0), near(61, -1), near(64, 13), near(127, -1), near(128, 0), near(255, -19), near(255, 0), more(highest(), -1), highest(), api.Num{1, 2, 3, 4}, ofTwoGreat())
}

// ofTwoGreat: the product of two great primes, so that small differences have inverses.
func ofTwoGreat() api.Num {
	return numOf(new(big.Int).Mul(bigOf(near(127, -1)), bigOf(near(128, -159))))
}

// nothingGoesRound: by these.
func nothingGoesRound() []api.Num { return list(0, 1) }

// tooGreat: n, what stands behind it, and the highest number.
func tooGreat(n api.Num) []api.Num {
	l := []api.Num{n, highest()}
	if n != highest() {
		l = append(l, more(n, 1))
	}
	return l
}

// ends: of exponents.
func ends(q api.Num) []api.Num { return []api.Num{of(0), of(1), more(q, -2), more(q, -1)} }

// some: so many exponents.
func some(r *rand.Rand, q api.Num, many int) []api.Num {
	var l []api.Num
	for range many {
		l = append(l, numOf(new(big.Int).Rand(r, bigOf(q))))
	}
	return l
}

// others: groups of one Q, with all else unlike: nothing, what would refuse each number, what is no group.
func others(q api.Num) []api.Group {
	l := []api.Group{{P: of(23), Q: q, G: of(4), H: of(9)}, {P: q, Q: q, G: q, H: q}}
	for _, n := range []api.Num{of(0), of(1), of(2), highest()} {
		l = append(l, api.Group{P: n, Q: q}, api.Group{Q: q, G: n}, api.Group{Q: q, H: n})
	}
	return l
}

// outside: what so many of a row, from 1 to the limit, may not be: the neighbours and what is far.
func outside(limit int) []int {
	return []int{0, -1, -2, -limit, limit + 1, limit + 2, 2 * limit, 64, 256, 257, 1 << 16, 1<<32 + 1, math.MaxInt32, math.MinInt32, math.MaxInt, math.MinInt, math.MinInt + 1}
}

// example: the chapter's group.
func example() api.Group { return api.Group{P: of(23), Q: of(11), G: of(4), H: of(9)} }

// safe: the group of an order q, by the prime that is one more than twice of it, whose numbers are squares.
func safe(q api.Num) api.Group {
	p := new(big.Int).Lsh(bigOf(q), 1)
	return api.Group{P: numOf(p.Add(p, big.NewInt(1))), Q: q, G: of(4), H: of(9)}
}

// modules: numbers by which products go round, prime or not.
func modules() []api.Num {
	return append(list(2, 3, 4, 12, 23, 30030, 4294967291, most), near(64, 0), near(127, -1), near(255, -19), near(255, 0), highest())
}

// may: so many numbers that may be multiplied.
func may(r *rand.Rand, p api.Num, many int) []api.Num {
	var l []api.Num
	for _, n := range some(r, more(p, -1), many) {
		l = append(l, more(n, 1))
	}
	return l
}

// groupsThatMayBe: of orders above as many nodes as there may be.
func groupsThatMayBe() []api.Group {
	return []api.Group{
		example(), safe(of(23)), safe(of(1013)), safe(of(2147483543)),
		safe(digits("57896044618658097711785492504343953926634992332820282019728792003956564801911")),
		safe(digits("28948138803258597613807299008635906668729595744687125648048476241964329583871")),
		{P: of(4294967291), Q: of(19), G: power(of(2), 226050910, of(4294967291)), H: power(of(3), 226050910, of(4294967291))},
	}
}

func power(a api.Num, n int64, p api.Num) api.Num {
	return numOf(new(big.Int).Exp(bigOf(a), big.NewInt(n), bigOf(p)))
}
