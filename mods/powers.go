package mods

import (
	"balefire/api"
	"balefire/divides"
	"balefire/limbs"
)

const allBits = api.Words * 64

// raise: the n-th power of a, which is below m.
func raise(a, n, m api.Num) api.Num {
	w := wayBy(m)
	factor, power := w.into(a), w.into(limbs.Of(1))
	gather := func(bit uint) {
		power = w.times(power, power)
		if bit == 1 {
			power = w.times(power, factor)
		}
	}
	many := limbs.Bits(n)
	for i := range many {
		gather(limbs.Bit(n, many-1-i))
	}
	return w.back(power)
}

// way: how numbers below m are multiplied again and again: each is brought into what stands for it, and back at the end.
type way struct {
	into, back func(a api.Num) api.Num
	times      func(a, b api.Num) api.Num
}

// wayBy: powers take nearly all the time of the layers above, and of an odd m no product needs to be divided.
func wayBy(m api.Num) way {
	if limbs.Bit(m, 0) == 1 {
		return oddWay(m)
	}
	return plainWay(m)
}

// plainWay: each number stands for itself.
func plainWay(m api.Num) way {
	same := func(a api.Num) api.Num { return a }
	times := func(a, b api.Num) api.Num {
		p, _ := product(a, b, m)
		return p
	}
	return way{into: same, back: same, times: times}
}

// oddWay: what 2^256 times a number leaves by m stands for it (Montgomery's way).
func oddWay(m api.Num) way {
	turned := inverseOfOdd(m)
	// What high words, which are below m, and low ones are worth by m, once divided by 2^256: taking m away so often that the low words become 0 leaves that in the high ones.
	reduce := func(low, high api.Num) api.Num {
		often, _ := limbs.Mul(low, turned)
		_, off := limbs.Mul(often, m)
		rest, _ := difference(high, off, m)
		return rest
	}
	into := func(a api.Num) api.Num {
		left, _ := divides.Wide(api.Num{}, a, m)
		return left
	}
	back := func(a api.Num) api.Num { return reduce(a, api.Num{}) }
	times := func(a, b api.Num) api.Num { return reduce(limbs.Mul(a, b)) }
	return way{into: into, back: back, times: times}
}

// inverseOfOdd: the number whose product with m leaves 1 by 2^256 (Newton's way).
func inverseOfOdd(m api.Num) api.Num {
	// An odd number's square leaves 1 by 8, so m itself is right in its lowest 3 bits; each step makes that twice as many.
	x := m
	for right := 3; right < allBits; right *= 2 {
		p, _ := limbs.Mul(m, x)
		rest, _ := limbs.Sub(limbs.Of(2), p)
		x, _ = limbs.Mul(x, rest)
	}
	return x
}
