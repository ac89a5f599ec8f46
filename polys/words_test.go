package polys_test

import (
	"math/big"
	"slices"
	"testing"

	"balefire/api"
	"balefire/polys"
)

// This file tells what the chapter's words have, by big numbers, and holds the calls against it.

func areExponents(q api.Num, l ...api.Num) bool {
	return bigOf(q).Cmp(big.NewInt(1)) > 0 && !slices.ContainsFunc(l, func(a api.Num) bool { return bigOf(a).Cmp(bigOf(q)) >= 0 })
}

func arePoints(q api.Num, l []api.Num) bool {
	for i, a := range l {
		if slices.Contains(l[i+1:], a) {
			return false
		}
	}
	return len(l) > 0 && areExponents(q, l...)
}

func less(a, b api.Num) *big.Int { return new(big.Int).Sub(bigOf(a), bigOf(b)) }

// allHaveInverses: the differences of two.
func allHaveInverses(q api.Num, points []api.Num) bool {
	for i, a := range points {
		for _, b := range points[i+1:] {
			if new(big.Int).GCD(nil, nil, new(big.Int).Mod(less(a, b), bigOf(q)), bigOf(q)).Cmp(big.NewInt(1)) != 0 {
				return false
			}
		}
	}
	return true
}

func at(q api.Num, p []api.Num, x api.Num) (api.Num, api.Errno) {
	if !areExponents(q, append(slices.Clone(p), x)...) {
		return of(0), api.ErrArg
	}
	sum := new(big.Int)
	for i, c := range p {
		power := new(big.Int).Exp(bigOf(x), big.NewInt(int64(i)), bigOf(q))
		sum.Add(sum, power.Mul(power, bigOf(c)))
	}
	return rest(sum, q), api.OK
}

func weights(q api.Num, points []api.Num, x api.Num) ([]api.Num, api.Errno) {
	if !arePoints(q, points) || !areExponents(q, x) {
		return nil, api.ErrArg
	}
	if !allHaveInverses(q, points) {
		return nil, api.ErrNone
	}
	var l []api.Num
	for i, a := range points {
		all := big.NewInt(1)
		for k, b := range points {
			if k != i {
				inverse := new(big.Int).ModInverse(new(big.Int).Mod(less(a, b), bigOf(q)), bigOf(q))
				all.Mul(all, inverse).Mul(all, less(x, b)).Mod(all, bigOf(q))
			}
		}
		l = append(l, numOf(all))
	}
	return l, api.OK
}

// unit: the coefficients of the polynomial that is 1 at that point, and 0 at the other ones.
func unit(q api.Num, points []api.Num, at int) []*big.Int {
	p := []*big.Int{big.NewInt(1)}
	for k, b := range points {
		if k == at {
			continue
		}
		inverse := new(big.Int).ModInverse(new(big.Int).Mod(less(points[at], b), bigOf(q)), bigOf(q))
		next := make([]*big.Int, len(p)+1)
		for i := range next {
			next[i] = new(big.Int)
			if i > 0 {
				next[i].Add(next[i], p[i-1])
			}
			if i < len(p) {
				next[i].Sub(next[i], new(big.Int).Mul(bigOf(b), p[i]))
			}
			next[i].Mul(next[i], inverse).Mod(next[i], bigOf(q))
		}
		p = next
	}
	return p
}

func through(q api.Num, points, values []api.Num) ([]api.Num, api.Errno) {
	if !arePoints(q, points) || len(values) != len(points) || !areExponents(q, values...) {
		return nil, api.ErrArg
	}
	if !allHaveInverses(q, points) {
		return nil, api.ErrNone
	}
	sums := make([]*big.Int, len(points))
	for i := range sums {
		sums[i] = new(big.Int)
	}
	for k, v := range values {
		for i, c := range unit(q, points, k) {
			sums[i].Add(sums[i], c.Mul(c, bigOf(v)))
		}
	}
	var p []api.Num
	for _, s := range sums {
		p = append(p, rest(s, q))
	}
	return p, api.OK
}

func isAt(t *testing.T, g api.Group, p []api.Num, x, want api.Num, wrong api.Errno) {
	t.Helper()
	if got, e := polys.At(g, p, x); got != want || e != wrong {
		t.Errorf("At(%x, %x, %x): %x, %d, not %x, %d", g, p, x, got, e, want, wrong)
	}
}

func isWeights(t *testing.T, g api.Group, points []api.Num, x api.Num, want []api.Num, wrong api.Errno) {
	t.Helper()
	if got, e := polys.Weights(g, points, x); !slices.Equal(got, want) || e != wrong {
		t.Errorf("Weights(%x, %x, %x): %x, %d, not %x, %d", g, points, x, got, e, want, wrong)
	}
}

func isThrough(t *testing.T, g api.Group, points, values, want []api.Num, wrong api.Errno) {
	t.Helper()
	if got, e := polys.Through(g, points, values); !slices.Equal(got, want) || e != wrong {
		t.Errorf("Through(%x, %x, %x): %x, %d, not %x, %d", g, points, values, got, e, want, wrong)
	}
}

func checkAt(t *testing.T, g api.Group, p []api.Num, x api.Num) {
	t.Helper()
	want, wrong := at(g.Q, p, x)
	isAt(t, g, p, x, want, wrong)
}

func checkWeights(t *testing.T, g api.Group, points []api.Num, x api.Num) {
	t.Helper()
	want, wrong := weights(g.Q, points, x)
	isWeights(t, g, points, x, want, wrong)
}

func checkThrough(t *testing.T, g api.Group, points, values []api.Num) {
	t.Helper()
	want, wrong := through(g.Q, points, values)
	isThrough(t, g, points, values, want, wrong)
}

// with: that in the place of one.
func with(l []api.Num, at int, a api.Num) []api.Num {
	l = slices.Clone(l)
	l[at] = a
	return l
}
