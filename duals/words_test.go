package duals_test

import (
	"math/big"
	"slices"
	"testing"

	"balefire/api"
	"balefire/duals"
)

// This file tells what the chapter's words have, by big numbers, and holds the calls against it.

func areExponents(q api.Num, l ...api.Num) bool {
	return bigOf(q).Cmp(big.NewInt(1)) > 0 && !slices.ContainsFunc(l, func(a api.Num) bool { return bigOf(a).Cmp(bigOf(q)) >= 0 })
}

func mayMultiply(p api.Num, l ...api.Num) bool {
	return bigOf(p).Cmp(big.NewInt(1)) > 0 && !slices.ContainsFunc(l, func(a api.Num) bool { return a == of(0) || bigOf(a).Cmp(bigOf(p)) >= 0 })
}

// value: of a polynomial at a whole number.
func value(p []api.Num, x int64) *big.Int {
	sum := new(big.Int)
	for i, c := range p {
		one := new(big.Int).Exp(big.NewInt(x), big.NewInt(int64(i)), nil)
		sum.Add(sum, one.Mul(one, bigOf(c)))
	}
	return sum
}

// allHaveInverses: the differences of the numbers 1 to nodes.
func allHaveInverses(q api.Num, nodes int) bool {
	for a := 1; a <= nodes; a++ {
		for b := 1; b < a; b++ {
			if new(big.Int).GCD(nil, nil, big.NewInt(int64(a-b)), bigOf(q)).Cmp(big.NewInt(1)) != 0 {
				return false
			}
		}
	}
	return true
}

// divided: by the product of a node's number less each other one's.
func divided(q api.Num, n *big.Int, nodes, node int) api.Num {
	under := big.NewInt(1)
	for other := 1; other <= nodes; other++ {
		if other != node {
			under.Mul(under, big.NewInt(int64(node-other)))
		}
	}
	under.ModInverse(under.Mod(under, bigOf(q)), bigOf(q))
	return rest(under.Mul(under, n), q)
}

func word(q api.Num, nodes int, p []api.Num) ([]api.Num, api.Errno) {
	if nodes < 1 || nodes > api.MaxNodes || len(p) >= nodes || !areExponents(q, p...) {
		return nil, api.ErrArg
	}
	if !allHaveInverses(q, nodes) {
		return nil, api.ErrNone
	}
	var l []api.Num
	for node := 1; node <= nodes; node++ {
		l = append(l, divided(q, value(p, int64(node)), nodes, node))
	}
	return l, api.OK
}

// powerOfX: as a polynomial.
func powerOfX(i int) []api.Num { return append(make([]api.Num, i), of(1)) }

// pass: what Check tells. Where there are as many coefficients as powers, there is no polynomial, so no word, and no error of one.
func pass(g api.Group, v []api.Num, coefficients int) (bool, api.Errno) {
	if len(v) < 1 || len(v) > api.MaxNodes || coefficients < 1 || coefficients > len(v) || !mayMultiply(g.P, v...) {
		return false, api.ErrArg
	}
	all := true
	for i := range len(v) - coefficients {
		exponents, e := word(g.Q, len(v), powerOfX(i))
		if e != api.OK {
			return false, e
		}
		product := big.NewInt(1)
		for k, n := range exponents {
			product.Mul(product, new(big.Int).Exp(bigOf(v[k]), bigOf(n), bigOf(g.P)))
		}
		all = all && rest(product, g.P) == of(1)
	}
	return all, api.OK
}

func isWord(t *testing.T, g api.Group, nodes int, p []api.Num, want []api.Num, wrong api.Errno) {
	t.Helper()
	if got, e := duals.Word(g, nodes, p); !slices.Equal(got, want) || e != wrong {
		t.Errorf("Word(%x, %d, %x): %x, %d, not %x, %d", g, nodes, p, got, e, want, wrong)
	}
}

func isCheck(t *testing.T, g api.Group, v []api.Num, coefficients int, want bool, wrong api.Errno) {
	t.Helper()
	if got, e := duals.Check(g, v, coefficients); got != want || e != wrong {
		t.Errorf("Check(%x, %x, %d): %t, %d, not %t, %d", g, v, coefficients, got, e, want, wrong)
	}
}

func checkWord(t *testing.T, g api.Group, nodes int, p []api.Num) {
	t.Helper()
	want, wrong := word(g.Q, nodes, p)
	isWord(t, g, nodes, p, want, wrong)
}

func checkCheck(t *testing.T, g api.Group, v []api.Num, coefficients int) {
	t.Helper()
	want, wrong := pass(g, v, coefficients)
	isCheck(t, g, v, coefficients, want, wrong)
}

// with: that in the place of one.
func with[T any](l []T, at int, a T) []T {
	l = slices.Clone(l)
	l[at] = a
	return l
}
