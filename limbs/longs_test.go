package limbs_test

import (
	"math"
	"math/big"
	"math/rand"

	"balefire/api"
	"balefire/limbs"
)

const (
	most    = math.MaxUint64
	allBits = 256
)

func highest() api.Num { return api.Num{most, most, most, most} }

// power: 2 to the power of i, made without the calls that are tested.
func power(i int) api.Num {
	var n api.Num
	n[i/64] = 1 << (i % 64)
	return n
}

func bigPower(i int) *big.Int { return new(big.Int).Lsh(big.NewInt(1), uint(i)) }

// bigBelow: 2 to the power of i, less one.
func bigBelow(i int) *big.Int { return new(big.Int).Sub(bigPower(i), big.NewInt(1)) }

func bigOf(n api.Num) *big.Int {
	out := new(big.Int)
	for i := api.Words - 1; i >= 0; i-- {
		out.Lsh(out, 64).Or(out, new(big.Int).SetUint64(n[i]))
	}
	return out
}

// numOf: the lowest 256 bits.
func numOf(b *big.Int) api.Num {
	var n api.Num
	for i := range n {
		part := new(big.Int).Rsh(b, uint(64*i))
		n[i] = part.And(part, bigBelow(64)).Uint64()
	}
	return n
}

// longs: numbers at whose words' ends a carry, or a sign, would be mistaken, and some in which every word is filled anyhow.
func longs() []api.Num {
	l := []api.Num{{}, limbs.Of(1), limbs.Of(2), limbs.Of(5), highest(), {most - 1, most, most, most}, {1, 2, 3, 4}, {4, 3, 2, 1}, {most, 0, most, 0}, {0, most, 0, most}, {0, 5, 6, 7}, {1, 5, 6, 7}}
	for i := range api.Words {
		for _, w := range []uint64{1, 1<<63 - 1, 1 << 63, most} {
			var one api.Num
			one[i] = w
			filled := highest()
			filled[i] = most - w
			l = append(l, one, filled)
		}
		l = append(l, numOf(bigBelow(64*i+1)), numOf(bigBelow(64*i+63)))
	}
	some := rand.New(rand.NewSource(2))
	for range 24 {
		l = append(l, api.Num{some.Uint64(), some.Uint64(), some.Uint64(), some.Uint64()})
	}
	return l
}
