package mods_test

import (
	"testing"

	"balefire/api"
	"balefire/limbs"
	"balefire/mods"
)

// round: what is done by one m, where nothing fails.
type round struct {
	t *testing.T
	m api.Num
}

func (r round) sure(n api.Num, e api.Errno) api.Num {
	r.t.Helper()
	if e != api.OK || limbs.Cmp(n, r.m) >= 0 {
		r.t.Errorf("by %x: %x, %d", r.m, n, e)
	}
	return n
}

func (r round) add(a, b api.Num) api.Num { return r.sure(mods.Add(a, b, r.m)) }
func (r round) sub(a, b api.Num) api.Num { return r.sure(mods.Sub(a, b, r.m)) }
func (r round) mul(a, b api.Num) api.Num { return r.sure(mods.Mul(a, b, r.m)) }
func (r round) exp(a, n api.Num) api.Num { return r.sure(mods.Exp(a, n, r.m)) }

func (r round) same(what string, one, two api.Num, of ...api.Num) {
	r.t.Helper()
	if one != two {
		r.t.Errorf("%s, by %x, of %x: %x and %x", what, r.m, of, one, two)
	}
}

// P4.3
func TestSumsAndProductsDontAskForTheOrder(t *testing.T) {
	for _, m := range moduli() {
		r := round{t, m}
		for _, a := range below(m) {
			for _, b := range below(m) {
				r.same("sums", r.add(a, b), r.add(b, a), a, b)
				r.same("products", r.mul(a, b), r.mul(b, a), a, b)
				r.same("added and taken away", r.sub(r.add(a, b), b), a, a, b)
				r.same("taken away and added", r.add(r.sub(a, b), b), a, a, b)
				r.same("differences", r.add(r.sub(a, b), r.sub(b, a)), of(0), a, b)
			}
			r.same("0 added", r.add(a, of(0)), a, a)
			r.same("times 1", r.mul(a, of(1)), a, a)
			r.same("times m less 1", r.mul(a, more(m, -1)), r.sub(of(0), a), a)
		}
	}
}

// P4.3
func TestThreeArePutTogetherEitherWay(t *testing.T) {
	for i, m := range moduli() {
		r := round{t, m}
		some := append([]api.Num{more(m, -1), of(1)}, random(int64(i), m, 5)...)
		for _, a := range some {
			for _, b := range some {
				for _, c := range some {
					r.same("sums", r.add(r.add(a, b), c), r.add(a, r.add(b, c)), a, b, c)
					r.same("products", r.mul(r.mul(a, b), c), r.mul(a, r.mul(b, c)), a, b, c)
					r.same("a product of a sum", r.mul(a, r.add(b, c)), r.add(r.mul(a, b), r.mul(a, c)), a, b, c)
					r.same("a product of a difference", r.mul(a, r.sub(b, c)), r.sub(r.mul(a, b), r.mul(a, c)), a, b, c)
				}
			}
		}
	}
}

// P4.3
func TestPowersOfSums(t *testing.T) {
	exponents := append([]api.Num{of(0), of(1), near(128, 0), near(255, -1)}, random(9, near(255, 0), 1)...)
	for i, m := range moduli() {
		r := round{t, m}
		for _, a := range append([]api.Num{of(0), more(m, -1)}, random(int64(i), m, 1)...) {
			var powers []api.Num
			for at, n := range exponents {
				powers = append(powers, r.exp(a, n))
				for ahead, k := range exponents[:at+1] {
					both, _ := limbs.Add(n, k)
					r.same("a power of a sum", r.exp(a, both), r.mul(powers[at], powers[ahead]), a, n, k)
				}
			}
		}
	}
}

// P4.3: as products are made of products, a power of a product is the product of the powers, and one of a power that of both exponents' product.
func TestPowersOfProducts(t *testing.T) {
	for i, m := range moduli() {
		r := round{t, m}
		a, b := random(int64(i), m, 2)[1], more(m, -1)
		for _, n := range []api.Num{of(0), of(1), of(6), of(most), near(128, -1)} {
			power := r.exp(a, n)
			r.same("a power of a product", r.exp(r.mul(a, b), n), r.mul(power, r.exp(b, n)), a, b, n)
			for _, k := range []api.Num{of(0), of(7), near(127, 3)} {
				both, _ := limbs.Mul(n, k)
				r.same("a power of a power", r.exp(power, k), r.exp(a, both), a, n, k)
			}
		}
	}
}

// P4.3: what has an inverse is its inverse's, and both times one another are 1.
func TestInversesOfInverses(t *testing.T) {
	for _, m := range moduli() {
		r := round{t, m}
		for _, a := range append(below(m), random(6, m, 10)...) {
			b, e := mods.Inv(a, m)
			if e != api.OK {
				continue
			}
			r.same("an inverse times the number", r.mul(a, b), of(1), a)
			r.same("the number times its inverse", r.mul(b, a), of(1), a)
			r.same("an inverse's inverse", r.sure(mods.Inv(b, m)), a, a)
		}
	}
}

// P4.3: inverses of products are the products of the inverses; by a prime they are powers, too.
func TestInversesOfProducts(t *testing.T) {
	for i, m := range primes() {
		r := round{t, m}
		for _, a := range below(m) {
			if a == of(0) {
				continue
			}
			one := r.sure(mods.Inv(a, m))
			if m != of(2) {
				r.same("an inverse as a power", one, r.exp(a, more(m, -2)), a)
			}
			for _, b := range random(int64(i), m, 4) {
				if b == of(0) {
					continue
				}
				two := r.sure(mods.Inv(b, m))
				r.same("an inverse of a product", r.sure(mods.Inv(r.mul(a, b), m)), r.mul(one, two), a, b)
			}
		}
	}
}

// everything: what all calls answer for three numbers.
func everything(a, b, m api.Num) [10]api.Num {
	var l [10]api.Num
	keep := func(at int, n api.Num, e api.Errno) { l[at], l[at+1] = n, of(uint64(e)) }
	n, e := mods.Add(a, b, m)
	keep(0, n, e)
	n, e = mods.Sub(a, b, m)
	keep(2, n, e)
	n, e = mods.Mul(a, b, m)
	keep(4, n, e)
	n, e = mods.Exp(a, b, m)
	keep(6, n, e)
	n, e = mods.Inv(a, m)
	keep(8, n, e)
	return l
}

// R1, R5: whatever is handed in, all calls end, and answer the same again.
func TestAgain(t *testing.T) {
	l := append(anything(), near(255, 1), near(64, -1), api.Num{4, 3, 2, 1})
	for _, a := range l {
		for _, b := range l {
			for _, m := range l {
				one, two := everything(a, b, m), everything(a, b, m)
				if one != two {
					t.Errorf("%x, %x and %x: %x, then %x", a, b, m, one, two)
				}
			}
		}
	}
}
