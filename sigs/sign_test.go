package sigs_test

import (
	"crypto/sha256"
	"math/big"
	"math/rand"
	"slices"
	"testing"

	"balefire/api"
	"balefire/scalars"
	"balefire/sigs"
)

// P13.1: the chapter's Examples.
func TestExamplesOfSign(t *testing.T) {
	for _, h := range someHashes() {
		isSign(t, example(), of(0), h, of(3), api.Signature{}, api.ErrArg)
		isSign(t, example(), of(5), h, of(11), api.Signature{}, api.ErrArg)
		checkSign(t, example(), of(5), h, of(3))
	}
}

// P13.1: told by hand (the challenges by other means than the program's).
func TestSignByHand(t *testing.T) {
	group := func(p, q, g uint64) api.Group { return api.Group{P: of(p), Q: of(q), G: of(g)} }
	none, ones, rising := api.Hash{}, bytesTo(255, 0), bytesTo(0, 1)
	for _, r := range []struct {
		g      api.Group
		secret uint64
		h      api.Hash
		draw   uint64
		c, s   uint64
		wrong  api.Errno
	}{
		{example(), 5, none, 3, 9, 4, 0}, {example(), 5, ones, 3, 7, 5, 0}, {example(), 5, rising, 3, 2, 2, 0},
		{example(), 1, none, 1, 3, 4, 0}, {example(), 10, none, 10, 8, 2, 0},
		// G that is not of the group, or not the group's own.
		{group(23, 11, 5), 5, none, 3, 1, 8, 0}, {group(23, 11, 9), 5, none, 3, 8, 10, 0},
		// No prime Q; by P 8 the key is 0.
		{group(23, 22, 5), 21, none, 20, 16, 4, 0}, {group(8, 5, 2), 3, none, 4, 4, 1, 0}, {group(15, 4, 2), 3, none, 2, 2, 0, 0},
		{group(23, 2, 22), 1, none, 1, 1, 0, 0},
		{example(), 0, none, 3, 0, 0, 1}, {example(), 5, none, 0, 0, 0, 1}, {example(), 11, none, 3, 0, 0, 1}, {example(), 12, none, 3, 0, 0, 1}, {example(), 5, none, 12, 0, 0, 1},
		{group(23, 11, 0), 5, none, 3, 0, 0, 1}, {group(23, 11, 23), 5, none, 3, 0, 0, 1}, {group(23, 11, 27), 5, none, 3, 0, 0, 1},
		{group(1, 11, 0), 5, none, 3, 0, 0, 1}, {group(1, 11, 1), 5, none, 3, 0, 0, 1}, {group(0, 11, 4), 5, none, 3, 0, 0, 1}, {group(0, 11, 0), 5, none, 3, 0, 0, 1},
		{group(23, 2, 22), 1, none, 2, 0, 0, 1}, {group(23, 2, 22), 2, none, 1, 0, 0, 1},
		{group(23, 1, 4), 0, none, 0, 0, 0, 1}, {group(23, 1, 4), 1, none, 1, 0, 0, 1}, {group(23, 0, 4), 0, none, 0, 0, 0, 1}, {group(23, 0, 4), 1, none, 1, 0, 0, 1},
	} {
		isSign(t, r.g, of(r.secret), r.h, of(r.draw), api.Signature{C: of(r.c), S: of(r.s)}, r.wrong)
	}
}

// P13.1: likewise, of long numbers.
func TestSignOfLongOnesByHand(t *testing.T) {
	g := groupsThatMayBe()[4]
	isSign(t, g, digits("12345678901234567890123456789"), bytesTo(0, 1), digits("98765432109876543210"), api.Signature{
		C: digits("37738161102369749898269805316388507911449611195699127579214843203408716343090"),
		S: digits("39601469438178655403060515096925954738906220603483323056625097590873843040834"),
	}, api.OK)
	g = of255()
	g.G = of(9)
	isSign(t, g, more(g.Q, -1), bytesTo(255, 0), more(g.Q, -2), api.Signature{
		C: digits("24804116886284893756643718089178833388518210143736560265168016128915346761165"),
		S: digits("4144021916973703857163580919457073280211385600950565382880460113048982822704"),
	}, api.OK)
}

// halves: the number, twice as long, that 132 bytes tell, and one more behind them, which says which half.
func halves(q api.Num, key, number *big.Int, h api.Hash) api.Num {
	b := []byte{0, 0, 0, 4, 's', 'i', 'g', 'n', 0, 0, 0, 4, 0, 0, 0, 32}
	b = append(b, key.FillBytes(make([]byte, 32))...)
	b = append(b, 0, 0, 0, 32)
	b = append(b, number.FillBytes(make([]byte, 32))...)
	b = append(b, 0, 0, 0, 32)
	b = append(b, h[:]...)
	b = append(b, 0, 0, 0, 1)
	high, low := sha256.Sum256(append(slices.Clone(b), 0)), sha256.Sum256(append(slices.Clone(b), 1))
	n := new(big.Int).SetBytes(append(high[:], low[:]...))
	return numOf(n.Mod(n, bigOf(q)))
}

// P13.1: the challenge is that of the bytes that the document names, by the library's own sums.
func TestChallengeByTheLibrary(t *testing.T) {
	r := rand.New(rand.NewSource(1))
	for _, g := range groupsThatMayBe() {
		for range 20 {
			secret, draw, h := exponent(r, g.Q), exponent(r, g.Q), anyHash(r)
			key := new(big.Int).Exp(bigOf(g.G), bigOf(secret), bigOf(g.P))
			number := new(big.Int).Exp(bigOf(g.G), bigOf(draw), bigOf(g.P))
			want := halves(g.Q, key, number, h)
			if s, e := sigs.Sign(g, secret, h, draw); s.C != want || e != api.OK {
				t.Errorf("Sign(%x, %x, %x, %x): C %x, %d, not %x", g, secret, h, draw, s.C, e, want)
			}
		}
	}
}

// P13.1: S is the draw and the secret times C, as scalars tells it.
func TestSignByScalars(t *testing.T) {
	r := rand.New(rand.NewSource(2))
	for _, g := range groupsThatMayBe() {
		for range 20 {
			secret, draw, h := exponent(r, g.Q), exponent(r, g.Q), anyHash(r)
			c := challenge(g.Q, power(g.G, secret, g.P), power(g.G, draw, g.P), h)
			product, e := scalars.Mul(g, secret, c)
			s, f := scalars.Add(g, draw, product)
			if e != api.OK || f != api.OK {
				t.Fatalf("by %x: %d, %d", g.Q, e, f)
			}
			isSign(t, g, secret, h, draw, api.Signature{C: c, S: s}, api.OK)
		}
	}
}

// endsOf: 0, 1, Q less one, Q, one more, the highest, and one between.
func endsOf(r *rand.Rand, q api.Num) []api.Num {
	return append(tooGreat(q), of(0), of(1), more(q, -1), exponent(r, q))
}

// P13.1: a secret, and a draw, at both ends of what may be and beyond, each by itself and both.
func TestSignOfSecretsAndDraws(t *testing.T) {
	r := rand.New(rand.NewSource(3))
	for _, g := range groupsThatMayBe() {
		for _, secret := range endsOf(r, g.Q) {
			for _, draw := range endsOf(r, g.Q) {
				h := anyHash(r)
				if secret == of(0) || draw == of(0) || !below(secret, g.Q) || !below(draw, g.Q) {
					isSign(t, g, secret, h, draw, api.Signature{}, api.ErrArg)
				} else {
					checkSign(t, g, secret, h, draw)
				}
			}
		}
	}
}

// P13.1: by all orders and all numbers by which products go round, whether they make a group or not.
func TestSignByMany(t *testing.T) {
	r := rand.New(rand.NewSource(4))
	for _, q := range orders() {
		for _, p := range modules() {
			g := api.Group{P: p, Q: q, G: exponent(r, p), H: one(r, highest())}
			for _, secret := range endsOf(r, q) {
				checkSign(t, g, secret, anyHash(r), exponent(r, q))
				checkSign(t, g, exponent(r, q), anyHash(r), secret)
			}
		}
	}
}

// P13.1: by P up to 6 and Q up to 5, all there is, also G that may not be multiplied, and exponents that are none.
func TestSignOfAllSmall(t *testing.T) {
	for p := range uint64(7) {
		for q := range uint64(6) {
			for n := range p + 2 {
				g := api.Group{P: of(p), Q: of(q), G: of(n)}
				for secret := range q + 2 {
					for draw := range q + 2 {
						checkSign(t, g, of(secret), bytesTo(byte(p), byte(q)), of(draw))
					}
				}
			}
		}
	}
}

// P13.1: in a group whose G may not be multiplied nothing is signed, whatever secret and draw are; and those at both ends of what may be sign.
func TestSignByAGThatMayNotBe(t *testing.T) {
	r := rand.New(rand.NewSource(5))
	for _, g := range groupsThatMayBe() {
		for _, secret := range []api.Num{of(0), of(1), more(g.Q, -1), g.Q} {
			for _, n := range append(tooGreat(g.P), of(0), plus(g.G, g.P)) {
				if below(n, g.P) && n != of(0) {
					continue
				}
				isSign(t, api.Group{P: g.P, Q: g.Q, G: n, H: g.H}, secret, anyHash(r), exponent(r, g.Q), api.Signature{}, api.ErrArg)
			}
			for _, n := range []api.Num{of(1), of(2), more(g.P, -1), more(g.P, -2)} {
				checkSign(t, api.Group{P: g.P, Q: g.Q, G: n, H: g.H}, secret, anyHash(r), exponent(r, g.Q))
			}
			for _, p := range nothingGoesRound() {
				for _, n := range []api.Num{of(0), of(1), g.G, highest()} {
					isSign(t, api.Group{P: p, Q: g.Q, G: n}, secret, anyHash(r), exponent(r, g.Q), api.Signature{}, api.ErrArg)
				}
			}
		}
	}
}

// P13.1: by Q 0 and 1 there is neither a secret nor a draw; by 2, 1 alone.
func TestSignBySmallQ(t *testing.T) {
	l := []api.Num{of(0), of(1), of(2), of(3), near(64, 0), highest()}
	for _, p := range modules() {
		for _, q := range nothingGoesRound() {
			for _, secret := range l {
				for _, draw := range l {
					isSign(t, api.Group{P: p, Q: q, G: of(1)}, secret, api.Hash{}, draw, api.Signature{}, api.ErrArg)
				}
			}
		}
		g := api.Group{P: p, Q: of(2), G: more(p, -1)}
		for _, secret := range l {
			for _, draw := range l {
				checkSign(t, g, secret, bytesTo(3, 0), draw)
				if _, e := sigs.Sign(g, secret, bytesTo(3, 0), draw); (e == api.OK) != (secret == of(1) && draw == of(1)) {
					t.Errorf("Sign(%x, %x, %x): %d", g, secret, draw, e)
				}
			}
		}
	}
}

// P13.1: all hashes count, each byte of them.
func TestSignOfEachByte(t *testing.T) {
	g := of255()
	seen := map[api.Signature]int{}
	for i := range len(api.Hash{}) {
		for _, b := range []byte{1, 128, 255} {
			var h api.Hash
			h[i] = b
			checkSign(t, g, of(5), h, of(3))
			s, _ := sigs.Sign(g, of(5), h, of(3))
			seen[s]++
		}
	}
	if len(seen) != 3*len(api.Hash{}) {
		t.Errorf("%d signatures of %d hashes", len(seen), 3*len(api.Hash{}))
	}
}

// P13.1: the key and the number are told apart: who changes the secret for the draw signs something else.
func TestSignOfSecretAndDrawChanged(t *testing.T) {
	g := of255()
	one, _ := sigs.Sign(g, of(5), api.Hash{}, of(3))
	two, _ := sigs.Sign(g, of(3), api.Hash{}, of(5))
	if one.C == two.C || one.S == two.S {
		t.Errorf("%x, %x", one, two)
	}
	checkSign(t, g, of(3), api.Hash{}, of(5))
	checkSign(t, g, of(5), api.Hash{}, of(3))
	checkSign(t, g, of(5), api.Hash{}, of(5))
}

// P13.1: H is not asked for, nor whether G is of the group.
func TestSignAsksNotForH(t *testing.T) {
	r := rand.New(rand.NewSource(6))
	for _, g := range groupsThatMayBe() {
		secret, draw, h := exponent(r, g.Q), exponent(r, g.Q), anyHash(r)
		want, wrong := sign(g, secret, h, draw)
		for _, n := range []api.Num{of(0), of(1), g.P, g.Q, g.G, highest()} {
			isSign(t, api.Group{P: g.P, Q: g.Q, G: g.G, H: n}, secret, h, draw, want, wrong)
		}
	}
}
