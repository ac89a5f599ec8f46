package sigs_test

import (
	"math/big"
	"slices"
	"testing"

	"balefire/api"
	"balefire/hashes"
	"balefire/nums"
	"balefire/sigs"
)

// This file tells what the chapter's words have, by big numbers, and holds the calls against it.

// challenge: of a key, a number and a hash, as the layer below hashes them; 0, where Q is.
func challenge(q, key, number api.Num, h api.Hash) api.Num {
	c, _ := hashes.Number(q, "sign", nums.PutLong(nil, key), nums.PutLong(nil, number), h[:])
	return c
}

func mayMultiply(p, a api.Num) bool { return below(of(1), p) && a != of(0) && below(a, p) }

// sign: what Sign tells.
func sign(g api.Group, secret api.Num, h api.Hash, draw api.Num) (api.Signature, api.Errno) {
	if !mayMultiply(g.P, g.G) || secret == of(0) || draw == of(0) || !below(secret, g.Q) || !below(draw, g.Q) {
		return api.Signature{}, api.ErrArg
	}
	c := challenge(g.Q, power(g.G, secret, g.P), power(g.G, draw, g.P), h)
	s := new(big.Int).Mul(bigOf(secret), bigOf(c))
	s.Add(s, bigOf(draw))
	return api.Signature{C: c, S: numOf(s.Mod(s, bigOf(g.Q)))}, api.OK
}

// What may be wrong with what is checked, one sentence of the chapter each.
const (
	mayNotG   = "a G that may not be multiplied"
	mayNotKey = "a key that may not be multiplied"
	outKey    = "a key that is not of the group"
	oneKey    = "a key that is 1"
	greatC    = "a C that is not below Q"
	greatS    = "an S that is not below Q"
	otherC    = "a C that is not the challenge"
)

// numberOf: G to the power of S times the key to the power of Q less C (which is not below 0).
func numberOf(g api.Group, key api.Num, s api.Signature) api.Num {
	if !below(of(1), g.P) {
		return of(0)
	}
	less := new(big.Int).Sub(bigOf(g.Q), bigOf(s.C))
	n := less.Exp(bigOf(key), less, bigOf(g.P))
	n.Mul(n, bigOf(power(g.G, s.S, g.P)))
	return numOf(n.Mod(n, bigOf(g.P)))
}

// broken: what is wrong, as the chapter's words have it and big numbers tell it.
func broken(g api.Group, key api.Num, h api.Hash, s api.Signature) []string {
	var l []string
	must := func(holds bool, what string) {
		if !holds {
			l = append(l, what)
		}
	}
	must(mayMultiply(g.P, g.G), mayNotG)
	must(mayMultiply(g.P, key), mayNotKey)
	must(power(key, g.Q, g.P) == of(1), outKey)
	must(key != of(1), oneKey)
	must(below(s.C, g.Q), greatC)
	must(below(s.S, g.Q), greatS)
	must(below(s.C, g.Q) && s.C == challenge(g.Q, key, numberOf(g, key, s), h), otherC)
	return l
}

// pass: what Check tells.
func pass(g api.Group, key api.Num, h api.Hash, s api.Signature) bool {
	return len(broken(g, key, h, s)) == 0
}

// brokenAlone: is just this wrong?
func brokenAlone(what string, g api.Group, key api.Num, h api.Hash, s api.Signature) bool {
	return slices.Equal(broken(g, key, h, s), []string{what})
}

func isSign(t *testing.T, g api.Group, secret api.Num, h api.Hash, draw api.Num, want api.Signature, wrong api.Errno) {
	t.Helper()
	if got, e := sigs.Sign(g, secret, h, draw); got != want || e != wrong {
		t.Errorf("Sign(%x, %x, %x, %x): %x, %d, not %x, %d", g, secret, h, draw, got, e, want, wrong)
	}
}

func isCheck(t *testing.T, g api.Group, key api.Num, h api.Hash, s api.Signature, want bool) {
	t.Helper()
	if got := sigs.Check(g, key, h, s); got != want {
		t.Errorf("Check(%x, %x, %x, %x): %t, not %t", g, key, h, s, got, want)
	}
}

func checkSign(t *testing.T, g api.Group, secret api.Num, h api.Hash, draw api.Num) {
	t.Helper()
	want, wrong := sign(g, secret, h, draw)
	isSign(t, g, secret, h, draw, want, wrong)
}

// checkCheck tells whether it passed, as it must.
func checkCheck(t *testing.T, g api.Group, key api.Num, h api.Hash, s api.Signature) bool {
	t.Helper()
	want := pass(g, key, h, s)
	isCheck(t, g, key, h, s, want)
	return want
}

// made: what is signed, where that may be.
func made(t *testing.T, g api.Group, secret api.Num, h api.Hash, draw api.Num) (key api.Num, s api.Signature) {
	t.Helper()
	s, e := sigs.Sign(g, secret, h, draw)
	if e != api.OK {
		t.Fatalf("Sign(%x, %x, %x, %x): %d", g, secret, h, draw, e)
	}
	return power(g.G, secret, g.P), s
}
