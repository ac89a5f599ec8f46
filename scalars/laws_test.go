package scalars_test

import (
	"math/big"
	"testing"

	"balefire/api"
	"balefire/scalars"
)

// round: what is done by one Q, where nothing fails.
type round struct {
	t *testing.T
	g api.Group
}

func (r round) sure(n api.Num, e api.Errno) api.Num {
	r.t.Helper()
	if e != api.OK || !goesRound(r.g, n) {
		r.t.Errorf("by %x: %x, %d", r.g.Q, n, e)
	}
	return n
}

func (r round) add(a, b api.Num) api.Num { return r.sure(scalars.Add(r.g, a, b)) }
func (r round) sub(a, b api.Num) api.Num { return r.sure(scalars.Sub(r.g, a, b)) }
func (r round) mul(a, b api.Num) api.Num { return r.sure(scalars.Mul(r.g, a, b)) }
func (r round) of(n int64) api.Num       { return r.sure(scalars.Of(r.g, n), api.OK) }

func (r round) same(what string, got, want api.Num, whole ...int64) {
	r.t.Helper()
	if got != want {
		r.t.Errorf("%s, by %x, of %d: %x, not %x", what, r.g.Q, whole, got, want)
	}
}

// here: what a whole number is here, and, where it is short enough, that Of tells it.
func (r round) here(n *big.Int) api.Num {
	r.t.Helper()
	want := rest(n, r.g.Q)
	if n.IsInt64() {
		r.same("a whole number", r.of(n.Int64()), want, n.Int64())
	}
	return want
}

// P9.3: of whole numbers whose sums, differences and products are short, and of such whose are not; each with every ninth other one, itself among them.
func TestWhatFollows(t *testing.T) {
	for _, q := range orders() {
		r := round{t, by(q)}
		l := wholes(q)
		for i, n := range l {
			a, whole := r.of(n), big.NewInt(n)
			for at := i % 9; at < len(l); at += 9 {
				k := l[at]
				b, other := r.of(k), big.NewInt(k)
				r.same("a sum", r.add(a, b), r.here(new(big.Int).Add(whole, other)), n, k)
				r.same("a difference", r.sub(a, b), r.here(new(big.Int).Sub(whole, other)), n, k)
				r.same("a product", r.mul(a, b), r.here(new(big.Int).Mul(whole, other)), n, k)
			}
		}
	}
}

// P9.3: of all small ones.
func TestWhatFollowsOfSmallOnes(t *testing.T) {
	for q := uint64(2); q < 20; q++ {
		r := round{t, by(of(q))}
		for n := int64(-25); n <= 25; n++ {
			for k := int64(-25); k <= 25; k++ {
				r.same("a sum", r.add(r.of(n), r.of(k)), r.of(n+k), n, k)
				r.same("a difference", r.sub(r.of(n), r.of(k)), r.of(n-k), n, k)
				r.same("a product", r.mul(r.of(n), r.of(k)), r.of(n*k), n, k)
			}
		}
	}
}

// P9.3: step by step, as they are gathered: of several numbers, the sum of each with its neighbour's product, and less a third one.
func TestWhatFollowsOfSeveral(t *testing.T) {
	for _, q := range orders() {
		r := round{t, by(q)}
		l := wholes(q)
		got, whole := r.of(1), big.NewInt(1)
		for i, n := range l[2:] {
			got = r.sub(r.add(r.mul(got, r.of(n)), r.of(l[i+1])), r.of(l[i]))
			whole.Mul(whole, big.NewInt(n)).Add(whole, big.NewInt(l[i+1])).Sub(whole, big.NewInt(l[i]))
			r.same("several", got, rest(whole, q), n)
		}
	}
}

// P9.1, P9.3: 0 and 1 are what they are of whole numbers, and an inverse is what makes 1.
func TestNoughtOneAndInverses(t *testing.T) {
	for _, q := range orders() {
		r := round{t, by(q)}
		for _, n := range wholes(q) {
			a := r.of(n)
			r.same("0 added", r.add(a, r.of(0)), a, n)
			r.same("times 1", r.mul(a, r.of(1)), a, n)
			r.same("taken away from itself", r.sub(a, a), r.of(0), n)
			r.same("times -1", r.mul(a, r.of(-1)), r.sub(r.of(0), a), n)
			if inverse, e := scalars.Inv(r.g, a); e == api.OK {
				r.same("times its inverse", r.mul(a, inverse), r.of(1), n)
				r.same("its inverse's inverse", r.sure(scalars.Inv(r.g, inverse)), a, n)
			}
		}
	}
}

// everything: what all calls answer.
func everything(g api.Group, a, b api.Num, n int64) [9]api.Num {
	var l [9]api.Num
	keep := func(at int, n api.Num, e api.Errno) { l[at], l[at+1] = n, of(uint64(e)) }
	for i, c := range calls() {
		n, e := c.do(g, a, b)
		keep(2*i, n, e)
	}
	inverse, e := scalars.Inv(g, a)
	keep(6, inverse, e)
	l[8] = scalars.Of(g, n)
	return l
}

// R1, R2, R4, R5: whatever is handed in, all calls end, leave it as it was, answer the same again, also when others were asked between, and nothing beside an error.
func TestAgain(t *testing.T) {
	l := append(anything(), of(3), of(11), near(63, 0), near(255, -19))
	whole := []int64{0, 1, -1, 14, greatest, least, least + 1}
	for _, q := range l {
		for i, a := range l {
			for k, b := range l {
				g, n := api.Group{P: a, Q: q, G: b, H: a}, whole[(i+k)%len(whole)]
				wasG, wasA, wasB := g, a, b
				one := everything(g, a, b, n)
				everything(api.Group{P: q, Q: b, G: a, H: q}, b, a, ^n)
				if two := everything(g, a, b, n); one != two {
					t.Errorf("by %x, of %x, %x, %d: %x, then %x", g, a, b, n, one, two)
				}
				if g != wasG || a != wasA || b != wasB {
					t.Errorf("%x, %x, %x became %x, %x, %x", wasG, wasA, wasB, g, a, b)
				}
				for at := 0; at < 8; at += 2 {
					if one[at+1] != of(0) && one[at] != of(0) {
						t.Errorf("by %x, of %x, %x: %x with an error", g, a, b, one[at])
					}
				}
			}
		}
	}
}
