package divides_test

import (
	"math"
	"math/big"
	"math/rand"

	"balefire/api"
)

const (
	most    = math.MaxUint64
	allBits = 256
)

func of(n uint64) api.Num { return api.Num{n} }

func highest() api.Num { return api.Num{most, most, most, most} }

// power: 2 to the power of i.
func power(i int) api.Num {
	var n api.Num
	n[i/64] = 1 << (i % 64)
	return n
}

// near: 2 to the power of i, and so much more (or, below 0, less).
func near(i int, more int64) api.Num { return numOf(new(big.Int).Add(bigPower(i), big.NewInt(more))) }

func bigPower(i int) *big.Int { return new(big.Int).Lsh(big.NewInt(1), uint(i)) }

func bigOf(n api.Num) *big.Int {
	out := new(big.Int)
	for i := api.Words - 1; i >= 0; i-- {
		out.Lsh(out, 64).Or(out, new(big.Int).SetUint64(n[i]))
	}
	return out
}

// bigWide: low and 2^256 times high.
func bigWide(low, high api.Num) *big.Int {
	out := bigOf(high)
	return out.Lsh(out, allBits).Or(out, bigOf(low))
}

// numOf: the lowest 256 bits.
func numOf(b *big.Int) api.Num {
	word := new(big.Int).SetUint64(most)
	var n api.Num
	for i := range n {
		part := new(big.Int).Rsh(b, uint(64*i))
		n[i] = part.And(part, word).Uint64()
	}
	return n
}

// ends: numbers at the words' ends, and beside them.
func ends() []api.Num {
	l := []api.Num{{}, of(1), of(2), of(3), highest(), near(256, -2), near(255, -1), near(255, 0), near(255, 1)}
	for _, i := range []int{32, 63, 64, 65, 127, 128, 129, 191, 192, 193, 254} {
		l = append(l, near(i, -1), near(i, 0), near(i, 1))
	}
	return l
}

// random: numbers of any length, always the same ones.
func random(seed int64, many int) []api.Num {
	some := rand.New(rand.NewSource(seed))
	var l []api.Num
	for range many {
		n := bigOf(api.Num{some.Uint64(), some.Uint64(), some.Uint64(), some.Uint64()})
		l = append(l, numOf(n.Rsh(n, uint(some.Intn(allBits)))))
	}
	return l
}

func longs() []api.Num {
	l := []api.Num{of(5), of(6), of(7), of(12), of(18), {1, 2, 3, 4}, {4, 3, 2, 1}, {most, 0, most, 0}, {0, most, 0, most}, {most, most, 0, 1 << 63}, {0, 0, most, most - 1}}
	return append(append(l, ends()...), random(3, 40)...)
}
