package proofs_test

import (
	"math/big"
	"slices"
	"testing"

	"balefire/api"
	"balefire/hashes"
	"balefire/proofs"
)

// This file tells what the chapter's words have, by big numbers, and holds the calls against it.

// bytesOf: a number in 32 bytes, the highest first, by the library's means.
func bytesOf(n api.Num) []byte { return bigOf(n).FillBytes(make([]byte, 32)) }

// challenge: of six numbers, as the layer below hashes them; 0, where Q is.
func challenge(q api.Num, as string, one, two, three, four, five, six api.Num) api.Num {
	c, _ := hashes.Number(q, as, bytesOf(one), bytesOf(two), bytesOf(three), bytesOf(four), bytesOf(five), bytesOf(six))
	return c
}

func mayMultiply(p, a api.Num) bool { return below(of(1), p) && a != of(0) && below(a, p) }

// task: all that Prove is asked.
type task struct {
	g                api.Group
	as               string
	x, base, y, draw api.Num
}

func (k task) prove() (api.Proof, api.Errno) {
	return proofs.Prove(k.g, k.as, k.x, k.base, k.y, k.draw)
}

// told: what Prove tells, as the chapter's words have it.
func (k task) told() (api.Proof, api.Errno) {
	p, q := k.g.P, k.g.Q
	if !below(k.x, q) || !mayMultiply(p, k.base) || !mayMultiply(p, k.y) || k.draw == of(0) || !below(k.draw, q) {
		return api.Proof{}, api.ErrArg
	}
	c := challenge(q, k.as, k.base, power(k.base, k.x, p), k.y, power(k.y, k.x, p), power(k.base, k.draw, p), power(k.y, k.draw, p))
	return api.Proof{C: c, S: plusProduct(q, k.draw, k.x, c)}, api.OK
}

// plusProduct: draw and x times c, by q.
func plusProduct(q, draw, x, c api.Num) api.Num {
	s := new(big.Int).Mul(bigOf(x), bigOf(c))
	s.Add(s, bigOf(draw))
	return numOf(s.Mod(s, bigOf(q)))
}

// claim: all that Check is asked.
type claim struct {
	g             api.Group
	as            string
	base, a, y, b api.Num
	p             api.Proof
}

func (c claim) check() bool { return proofs.Check(c.g, c.as, c.base, c.a, c.y, c.b, c.p) }

// with: the claim with another proof.
func (c claim) with(p api.Proof) claim {
	c.p = p
	return c
}

// names: of the four numbers, in the order of put.
var names = [4]string{"base", "a", "y", "b"}

// put: the claim with another number in one of the four places.
func (c claim) put(place int, n api.Num) claim {
	*c.at(place) = n
	return c
}

func (c *claim) at(place int) *api.Num {
	return [...]*api.Num{&c.base, &c.a, &c.y, &c.b}[place]
}

// What may be wrong with what is checked, one sentence of the chapter each (the first two of each of the four numbers).
const (
	mayNot = " that may not be multiplied"
	out    = " that is not of the group"
	lowQ   = "a Q that is not above 1"
	greatC = "a C that is not below Q"
	greatS = "an S that is not below Q"
	otherC = "a C that is not the challenge"
)

// numberOf: base to the power of S times its power to the power of Q less C (which is not below 0).
func (c claim) numberOf(base, power api.Num) api.Num {
	if !below(of(1), c.g.P) {
		return of(0)
	}
	p := bigOf(c.g.P)
	less := new(big.Int).Sub(bigOf(c.g.Q), bigOf(c.p.C))
	n := less.Exp(bigOf(power), less, p)
	n.Mul(n, new(big.Int).Exp(bigOf(base), bigOf(c.p.S), p))
	return numOf(n.Mod(n, p))
}

// isChallenge: is C, which is below Q, the challenge?
func (c claim) isChallenge() bool {
	return c.p.C == challenge(c.g.Q, c.as, c.base, c.a, c.y, c.b, c.numberOf(c.base, c.a), c.numberOf(c.y, c.b))
}

// broken: what is wrong, as the chapter's words have it and big numbers tell it.
func (c claim) broken() []string {
	var l []string
	must := func(holds bool, what string) {
		if !holds {
			l = append(l, what)
		}
	}
	must(below(of(1), c.g.Q), lowQ)
	for place, name := range names {
		must(mayMultiply(c.g.P, *c.at(place)), name+mayNot)
		must(power(*c.at(place), c.g.Q, c.g.P) == of(1), name+out)
	}
	must(below(c.p.C, c.g.Q), greatC)
	must(below(c.p.S, c.g.Q), greatS)
	must(below(c.p.C, c.g.Q) && c.isChallenge(), otherC)
	return l
}

// passes: what Check tells, as the chapter's words have it.
func (c claim) passes() bool { return len(c.broken()) == 0 }

// brokenAlone: is just this wrong?
func (c claim) brokenAlone(what string) bool { return slices.Equal(c.broken(), []string{what}) }

func isProve(t *testing.T, k task, want api.Proof, wrong api.Errno) {
	t.Helper()
	if got, e := k.prove(); got != want || e != wrong {
		t.Errorf("Prove(%x): %x, %d, not %x, %d", k, got, e, want, wrong)
	}
}

func isCheck(t *testing.T, c claim, want bool) {
	t.Helper()
	if got := c.check(); got != want {
		t.Errorf("Check(%x): %t, not %t", c, got, want)
	}
}

// checkProve tells whether it was proved, as it must.
func checkProve(t *testing.T, k task) bool {
	t.Helper()
	want, wrong := k.told()
	isProve(t, k, want, wrong)
	return wrong == api.OK
}

// checkCheck tells whether it passed, as it must.
func checkCheck(t *testing.T, c claim) bool {
	t.Helper()
	want := c.passes()
	isCheck(t, c, want)
	return want
}

// made: what is claimed and proved, where that may be.
func made(t *testing.T, k task) claim {
	t.Helper()
	p, e := k.prove()
	if e != api.OK {
		t.Fatalf("Prove(%x): %d", k, e)
	}
	return claim{k.g, k.as, k.base, power(k.base, k.x, k.g.P), k.y, power(k.y, k.x, k.g.P), p}
}
