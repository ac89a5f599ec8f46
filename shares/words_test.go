package shares_test

import (
	"math/big"
	"slices"
	"testing"

	"balefire/api"
	"balefire/shares"
)

// This file tells what the chapter's words have, by big numbers, and holds the calls against it.

func areExponents(q api.Num, l ...api.Num) bool {
	return bigOf(q).Cmp(big.NewInt(1)) > 0 && !slices.ContainsFunc(l, func(a api.Num) bool { return bigOf(a).Cmp(bigOf(q)) >= 0 })
}

func mayMultiply(p api.Num, l ...api.Num) bool {
	return bigOf(p).Cmp(big.NewInt(1)) > 0 && !slices.ContainsFunc(l, func(a api.Num) bool { return a == of(0) || bigOf(a).Cmp(bigOf(p)) >= 0 })
}

// value: of a polynomial at a whole number.
func value(q api.Num, p []api.Num, x int64) api.Num {
	sum := new(big.Int)
	for i, c := range p {
		one := new(big.Int).Exp(big.NewInt(x), big.NewInt(int64(i)), nil)
		sum.Add(sum, one.Mul(one, bigOf(c)))
	}
	return rest(sum, q)
}

// values: at the first so many points, which go up or down from 0.
func values(q api.Num, p []api.Num, many, limit int, step int64) ([]api.Num, api.Errno) {
	if many < 1 || many > limit || !areExponents(q, p...) || !areExponents(q) {
		return nil, api.ErrArg
	}
	var l []api.Num
	for i := range int64(many) {
		l = append(l, value(q, p, step*(i+1)))
	}
	return l, api.OK
}

// meet: are two of the points of these places one exponent?
func meet(q api.Num, at []int) bool {
	for i, a := range at {
		for _, b := range at[i+1:] {
			if rest(big.NewInt(int64(a-b)), q) == of(0) {
				return true
			}
		}
	}
	return false
}

func allHaveInverses(q api.Num, at []int) bool {
	for i, a := range at {
		for _, b := range at[i+1:] {
			if new(big.Int).GCD(nil, nil, bigOf(rest(big.NewInt(int64(a-b)), q)), bigOf(q)).Cmp(big.NewInt(1)) != 0 {
				return false
			}
		}
	}
	return true
}

// weight: of that one of the places, at a whole number.
func weight(q api.Num, at []int, which int, x int64) *big.Int {
	over, under := big.NewInt(1), big.NewInt(1)
	for k, other := range at {
		if k != which {
			over.Mul(over, big.NewInt(x-int64(other)-1))
			under.Mul(under, big.NewInt(int64(at[which]-other)))
		}
	}
	under.ModInverse(under.Mod(under, bigOf(q)), bigOf(q))
	return over.Mul(over, under).Mod(over, bigOf(q))
}

// mayRaise: all that the chapter's sentence asks ahead of the weights.
func mayRaise(p api.Num, at []int, powers []api.Num, many int) bool {
	if many < 1 || many > api.MaxSecrets || len(at) == 0 || len(powers) != len(at) || !mayMultiply(p, powers...) {
		return false
	}
	for i, a := range at {
		if a < 0 || a >= api.MaxNodes || slices.Contains(at[:i], a) {
			return false
		}
	}
	return true
}

func raised(g api.Group, at []int, powers []api.Num, many int) ([]api.Num, api.Errno) {
	if !mayRaise(g.P, at, powers, many) || !areExponents(g.Q) || meet(g.Q, at) {
		return nil, api.ErrArg
	}
	if !allHaveInverses(g.Q, at) {
		return nil, api.ErrNone
	}
	var l []api.Num
	for secret := range int64(many) {
		all := big.NewInt(1)
		for i, power := range powers {
			all.Mul(all, new(big.Int).Exp(bigOf(power), weight(g.Q, at, i, -1-secret), bigOf(g.P)))
		}
		l = append(l, rest(all, g.P))
	}
	return l, api.OK
}

func isOf(t *testing.T, g api.Group, p []api.Num, nodes int, want []api.Num, wrong api.Errno) {
	t.Helper()
	if got, e := shares.Of(g, p, nodes); !slices.Equal(got, want) || e != wrong {
		t.Errorf("Of(%x, %x, %d): %x, %d, not %x, %d", g, p, nodes, got, e, want, wrong)
	}
}

func isSecrets(t *testing.T, g api.Group, p []api.Num, many int, want []api.Num, wrong api.Errno) {
	t.Helper()
	if got, e := shares.Secrets(g, p, many); !slices.Equal(got, want) || e != wrong {
		t.Errorf("Secrets(%x, %x, %d): %x, %d, not %x, %d", g, p, many, got, e, want, wrong)
	}
}

func isRaise(t *testing.T, g api.Group, at []int, powers []api.Num, many int, want []api.Num, wrong api.Errno) {
	t.Helper()
	if got, e := shares.Raise(g, at, powers, many); !slices.Equal(got, want) || e != wrong {
		t.Errorf("Raise(%x, %d, %x, %d): %x, %d, not %x, %d", g, at, powers, many, got, e, want, wrong)
	}
}

func checkOf(t *testing.T, g api.Group, p []api.Num, nodes int) {
	t.Helper()
	want, wrong := values(g.Q, p, nodes, api.MaxNodes, 1)
	isOf(t, g, p, nodes, want, wrong)
}

func checkSecrets(t *testing.T, g api.Group, p []api.Num, many int) {
	t.Helper()
	want, wrong := values(g.Q, p, many, api.MaxSecrets, -1)
	isSecrets(t, g, p, many, want, wrong)
}

func checkRaise(t *testing.T, g api.Group, at []int, powers []api.Num, many int) {
	t.Helper()
	want, wrong := raised(g, at, powers, many)
	isRaise(t, g, at, powers, many, want, wrong)
}

// with: that in the place of one.
func with[T any](l []T, at int, a T) []T {
	l = slices.Clone(l)
	l[at] = a
	return l
}
