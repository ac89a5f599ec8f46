package primes

import (
	"balefire/api"
	"balefire/divides"
	"balefire/limbs"
	"balefire/mods"
)

// shows: does a reason hold whose parts hold?
func shows(r api.Reason) bool {
	if limbs.Cmp(r.N, limbs.Of(beyondSmall)) < 0 {
		return Small(r.N[0]) && r.Witness == (api.Num{}) && len(r.Parts) == 0
	}
	less, _ := limbs.Sub(r.N, limbs.Of(1))
	return reaches(r, less) && witnessed(r, less)
}

// reaches: do the parts, which are prime, rise, does each divide less, which is N less one, and is the product of their powers in it above N's root?
func reaches(r api.Reason, less api.Num) bool {
	f := limbs.Of(1)
	var last api.Num
	for _, part := range r.Parts {
		power := powerIn(less, part.N)
		if limbs.Cmp(part.N, last) <= 0 || power == limbs.Of(1) {
			return false
		}
		// Never beyond 2^256: powers of unlike primes that divide less divide it together.
		f, _ = limbs.Mul(f, power)
		last = part.N
	}
	low, high := limbs.Mul(f, f)
	return high != (api.Num{}) || limbs.Cmp(low, r.N) > 0
}

// powerIn: the greatest power of a prime that divides n, which is not 0.
func powerIn(n, prime api.Num) api.Num {
	power := limbs.Of(1)
	for {
		often, left, _ := divides.Div(n, prime)
		if left != (api.Num{}) {
			return power
		}
		n = often
		power, _ = limbs.Mul(power, prime)
	}
}

// witnessed: do the powers of the witness tell that N is prime?
func witnessed(r api.Reason, less api.Num) bool {
	one := limbs.Of(1)
	if limbs.Cmp(r.Witness, one) <= 0 || limbs.Cmp(r.Witness, r.N) >= 0 {
		return false
	}
	if power, _ := mods.Exp(r.Witness, less, r.N); power != one {
		return false
	}
	// A prime that divides N then leaves 1 by each part's power in N less one: by their product, too, and so it is above N's root.
	for _, part := range r.Parts {
		often, _, _ := divides.Div(less, part.N)
		power, _ := mods.Exp(r.Witness, often, r.N)
		short, _ := mods.Sub(power, one, r.N)
		if divides.Common(short, r.N) != one {
			return false
		}
	}
	return true
}
