package groups_test

import (
	"math"
	"math/big"
	"math/rand"

	"balefire/api"
)

const (
	most    = math.MaxUint64
	allBits = 256
)

func of(n uint64) api.Num { return api.Num{n} }

func highest() api.Num { return api.Num{most, most, most, most} }

// near: 2 to the power of i, so many times, and so much more (or, below 0, less).
func near(i uint, times, more int64) *big.Int {
	n := new(big.Int).Lsh(big.NewInt(times), i)
	return n.Add(n, big.NewInt(more))
}

// digits: a number as it is written.
func digits(text string) *big.Int {
	n, ok := new(big.Int).SetString(text, 10)
	if !ok {
		panic(text)
	}
	return n
}

func bigOf(n api.Num) *big.Int {
	out := new(big.Int)
	for i := api.Words - 1; i >= 0; i-- {
		out.Lsh(out, 64).Or(out, new(big.Int).SetUint64(n[i]))
	}
	return out
}

// numOf: the lowest 256 bits.
func numOf(b *big.Int) api.Num {
	word := new(big.Int).SetUint64(most)
	var n api.Num
	for i := range n {
		part := new(big.Int).Rsh(b, uint(64*i))
		n[i] = part.And(part, word).Uint64()
	}
	return n
}

// more: so much more than n (or, below 0, less), round 2^256.
func more(n api.Num, by int64) api.Num {
	return numOf(new(big.Int).Add(bigOf(n), big.NewInt(by)))
}

func less(n *big.Int) *big.Int { return new(big.Int).Sub(n, big.NewInt(1)) }

func isOne(n *big.Int) bool { return n.Cmp(big.NewInt(1)) == 0 }

// random: numbers below m, always the same ones of one seed.
func random(seed int64, m api.Num, many int) []api.Num {
	some := rand.New(rand.NewSource(seed))
	var l []api.Num
	for range many {
		l = append(l, numOf(new(big.Int).Rand(some, bigOf(m))))
	}
	return l
}

// powerOf: what is left by m of a's n-th power, of numbers that are small.
func powerOf(a, n, m uint64) uint64 {
	power := 1 % m
	for range n {
		power = power * a % m
	}
	return power
}
