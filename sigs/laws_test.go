package sigs_test

import (
	"math/rand"
	"testing"

	"balefire/api"
	"balefire/groups"
	"balefire/sigs"
)

// The groups of these tests may be: the small ones with their reasons; of the others both are prime, and G and H are of the group.
func TestGroupsMayBe(t *testing.T) {
	for _, g := range smallGroups(48) {
		if !groups.Check(g, api.Reason{N: g.P}, api.Reason{N: g.Q}) {
			t.Errorf("the test's own group %d", g)
		}
	}
	for _, g := range append(groupsThatMayBe(), shortOrders()...) {
		if !bigOf(g.P).ProbablyPrime(30) || !bigOf(g.Q).ProbablyPrime(30) || !groups.In(g, g.G) || !groups.In(g, g.H) || g.G == of(1) || g.H == of(1) {
			t.Errorf("the test's own group %d", g)
		}
	}
}

// passes: what is signed does so, by G to the power of the secret.
func passes(t *testing.T, g api.Group, secret api.Num, h api.Hash, draw api.Num) {
	t.Helper()
	s, e := sigs.Sign(g, secret, h, draw)
	key, wrong := groups.Exp(g, g.G, secret)
	if e != api.OK || wrong != api.OK {
		t.Errorf("Sign(%x, %x, %x, %x): %d, its key: %d", g, secret, h, draw, e, wrong)
	}
	isCheck(t, g, key, h, s, true)
}

// P13.3: in all groups of small primes, with each of their numbers as G, each secret and each draw.
func TestWhatIsSignedPassesInSmallGroups(t *testing.T) {
	for i, g := range smallGroups(48) {
		q := g.Q[0]
		for secret := uint64(1); secret < q; secret++ {
			for draw := uint64(1); draw < q; draw++ {
				passes(t, g, of(secret), bytesTo(byte(i), byte(draw)), of(draw))
			}
		}
	}
}

// P13.3: in greater ones, with secrets and draws at both ends and between, of any hashes.
func TestWhatIsSignedPasses(t *testing.T) {
	r := rand.New(rand.NewSource(1))
	for _, g := range append(groupsThatMayBe(), shortOrders()...) {
		ends := []api.Num{of(1), of(2), more(g.Q, -2), more(g.Q, -1), exponent(r, g.Q), exponent(r, g.Q)}
		for _, secret := range ends {
			for _, draw := range ends {
				passes(t, g, secret, anyHash(r), draw)
			}
			for _, h := range someHashes() {
				passes(t, g, secret, h, exponent(r, g.Q))
			}
		}
	}
}

// P13.3: H is as good as G, where it stands for it; and what passes by the one does not by the other.
func TestWhatIsSignedByAnotherG(t *testing.T) {
	r := rand.New(rand.NewSource(2))
	for _, g := range greatGroups() {
		other := api.Group{P: g.P, Q: g.Q, G: g.H, H: g.G}
		secret, h, draw := exponent(r, g.Q), anyHash(r), exponent(r, g.Q)
		passes(t, other, secret, h, draw)
		key, s := made(t, other, secret, h, draw)
		isCheck(t, g, key, h, s, false)
		isCheck(t, g, power(g.G, secret, g.P), h, s, false)
	}
}

// greatGroups: those in which nothing passes by chance.
func greatGroups() []api.Group { return groupsThatMayBe()[4:6] }

// P13.2, P13.3: whatever was drawn, it passes; and what is drawn otherwise is signed otherwise.
func TestWhateverWasDrawn(t *testing.T) {
	r := rand.New(rand.NewSource(3))
	for _, g := range greatGroups() {
		secret, h := exponent(r, g.Q), anyHash(r)
		seen := map[api.Signature]int{}
		for range 20 {
			key, s := made(t, g, secret, h, exponent(r, g.Q))
			isCheck(t, g, key, h, s, true)
			seen[s]++
		}
		if len(seen) != 20 {
			t.Errorf("by %x: %d signatures of 20 draws", g, len(seen))
		}
	}
}

// changed: what is near to a signature: one more or less in C, or in S, both, and all that is changed for another one.
func changed(s api.Signature) []api.Signature {
	l := []api.Signature{{C: s.S, S: s.C}, {C: s.C, S: s.C}, {C: s.S, S: s.S}, {C: s.C}, {S: s.S}, {}}
	for _, by := range []int64{1, -1} {
		l = append(l, api.Signature{C: more(s.C, by), S: s.S}, api.Signature{C: s.C, S: more(s.S, by)}, api.Signature{C: more(s.C, by), S: more(s.S, by)})
	}
	for word := range api.Words {
		for _, bit := range []uint64{1, 1 << 40, 1 << 63} {
			one, two := s, s
			one.C[word] ^= bit
			two.S[word] ^= bit
			l = append(l, one, two)
		}
	}
	return l
}

// P13.2: what was signed, and changed, does not pass.
func TestChangedSignatures(t *testing.T) {
	r := rand.New(rand.NewSource(4))
	for _, g := range greatGroups() {
		for range 3 {
			h := anyHash(r)
			key, s := made(t, g, exponent(r, g.Q), h, exponent(r, g.Q))
			isCheck(t, g, key, h, s, true)
			for _, other := range changed(s) {
				isCheck(t, g, key, h, other, false)
			}
		}
	}
}

// P13.2: nor by another key: one more, one less, its inverse, what it is times G, or times what is not of the group.
func TestChangedKeys(t *testing.T) {
	r := rand.New(rand.NewSource(5))
	for _, g := range greatGroups() {
		for range 3 {
			h := anyHash(r)
			key, s := made(t, g, exponent(r, g.Q), h, exponent(r, g.Q))
			inverse, _ := groups.Inv(g, key)
			next, _ := groups.Mul(g, key, g.G)
			out, _ := groups.Mul(g, key, more(g.P, -1))
			for _, other := range []api.Num{more(key, 1), more(key, -1), inverse, next, out, plus(key, g.P), g.G, g.H, of(0), of(1), g.P, more(g.P, -1), g.Q, highest()} {
				isCheck(t, g, other, h, s, false)
			}
			isCheck(t, g, key, h, s, true)
		}
	}
}

// P13.2: nor of another hash, with another byte in whichever place.
func TestChangedHashes(t *testing.T) {
	r := rand.New(rand.NewSource(6))
	for _, g := range greatGroups() {
		h := anyHash(r)
		key, s := made(t, g, exponent(r, g.Q), h, exponent(r, g.Q))
		for i := range h {
			for _, bits := range []byte{1, 128, 255} {
				other := h
				other[i] ^= bits
				isCheck(t, g, key, other, s, false)
			}
		}
		for _, other := range someHashes() {
			isCheck(t, g, key, other, s, false)
		}
		isCheck(t, g, key, h, s, true)
	}
}

// P13.2: nor what was signed by another secret, or of another hash, though the draw is the same.
func TestSignedByOthers(t *testing.T) {
	r := rand.New(rand.NewSource(7))
	for _, g := range greatGroups() {
		secret, h, draw := exponent(r, g.Q), anyHash(r), exponent(r, g.Q)
		key, s := made(t, g, secret, h, draw)
		for _, other := range []api.Num{more(secret, 1), more(secret, -1), more(g.Q, -1), of(1), draw, exponent(r, g.Q)} {
			_, signed := made(t, g, other, h, draw)
			isCheck(t, g, key, h, signed, false)
			isCheck(t, g, key, h, api.Signature{C: s.C, S: signed.S}, false)
			isCheck(t, g, key, h, api.Signature{C: signed.C, S: s.S}, false)
		}
		for range 5 {
			other := anyHash(r)
			_, signed := made(t, g, secret, other, draw)
			isCheck(t, g, key, other, signed, true)
			isCheck(t, g, key, h, signed, false)
			isCheck(t, g, key, other, s, false)
			isCheck(t, g, key, h, api.Signature{C: s.C, S: signed.S}, false)
		}
		_, again := made(t, g, secret, h, exponent(r, g.Q))
		isCheck(t, g, key, h, again, true)
		isCheck(t, g, key, h, api.Signature{C: s.C, S: again.S}, false)
		isCheck(t, g, key, h, api.Signature{C: again.C, S: s.S}, false)
	}
}

// P13.2: in small groups what is changed passes by chance now and then: just where the chapter's words have it so.
func TestChangedInSmallGroups(t *testing.T) {
	r := rand.New(rand.NewSource(8))
	passed, not := 0, 0
	count := func(pass bool) {
		if pass {
			passed++
		} else {
			not++
		}
	}
	for _, g := range append(shortOrders(), safe(of(1013)), safe(of(2147483543))) {
		for range 12 {
			h := anyHash(r)
			key, s := made(t, g, exponent(r, g.Q), h, exponent(r, g.Q))
			for _, other := range changed(s) {
				count(checkCheck(t, g, key, h, other))
			}
			next, _ := groups.Mul(g, key, g.G)
			for _, other := range []api.Num{more(key, 1), more(key, -1), next, g.G, g.H} {
				count(checkCheck(t, g, other, h, s))
			}
			for i := range h {
				other := h
				other[i]++
				count(checkCheck(t, g, key, other, s))
			}
			_, signed := made(t, g, exponent(r, g.Q), h, exponent(r, g.Q))
			count(checkCheck(t, g, key, h, signed))
		}
	}
	if passed < 100 || not < 1000 {
		t.Errorf("%d passed, %d did not", passed, not)
	}
}
