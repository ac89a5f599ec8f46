package proofs_test

import (
	"crypto/sha256"
	"math/big"
	"math/rand"
	"slices"
	"strings"
	"testing"

	"balefire/api"
	"balefire/hashes"
	"balefire/scalars"
)

// P14.1: the chapter's Examples.
func TestExamplesOfProve(t *testing.T) {
	isProve(t, task{example(), "x", of(11), of(4), of(9), of(3)}, api.Proof{}, api.ErrArg)
	isProve(t, task{example(), "x", of(5), of(4), of(9), of(0)}, api.Proof{}, api.ErrArg)
	isProve(t, task{example(), "x", of(5), of(4), of(9), of(3)}, api.Proof{S: of(3)}, api.OK)
}

// P14.1: told by hand (the challenges by other means than the program's).
func TestProveByHand(t *testing.T) {
	for _, r := range []struct {
		p, q             uint64
		as               string
		x, base, y, draw uint64
		c, s             uint64
		wrong            api.Errno
	}{
		{23, 11, "x", 5, 4, 9, 3, 0, 3, 0}, {23, 11, "", 5, 4, 9, 3, 9, 4, 0}, {23, 11, "share", 5, 4, 9, 3, 5, 6, 0}, {23, 11, "\x00\xff\xc3", 5, 4, 9, 3, 2, 2, 0},
		{23, 11, "x", 0, 4, 9, 3, 2, 3, 0}, {23, 11, "x", 1, 4, 9, 1, 0, 1, 0}, {23, 11, "x", 10, 4, 9, 10, 0, 10, 0},
		{23, 11, "x", 5, 9, 4, 3, 2, 2, 0}, {23, 11, "x", 5, 4, 4, 3, 1, 8, 0},
		// 1 may be multiplied; so may what is not of the group.
		{23, 11, "x", 5, 1, 1, 3, 8, 10, 0}, {23, 11, "x", 5, 1, 9, 3, 9, 4, 0}, {23, 11, "x", 5, 4, 1, 3, 7, 5, 0},
		{23, 11, "x", 5, 22, 9, 3, 8, 10, 0}, {23, 11, "x", 5, 5, 22, 3, 0, 3, 0}, {23, 11, "x", 5, 5, 7, 3, 7, 5, 0},
		// No prime Q, or P; by P 8 and 4 powers are 0.
		{23, 22, "x", 21, 5, 10, 20, 1, 19, 0}, {8, 5, "x", 3, 2, 3, 4, 2, 0, 0}, {8, 5, "x", 4, 6, 2, 3, 1, 2, 0},
		{15, 4, "x", 3, 2, 7, 2, 1, 1, 0}, {15, 4, "x", 2, 6, 10, 3, 1, 1, 0}, {4, 2, "x", 1, 2, 3, 1, 0, 1, 0},
		{23, 2, "x", 1, 22, 1, 1, 0, 1, 0}, {23, 2, "x", 0, 22, 22, 1, 1, 1, 0}, {23, 2, "x", 1, 4, 9, 1, 1, 0, 0},
		{2, 11, "x", 5, 1, 1, 3, 8, 10, 0}, {2, 2, "x", 1, 1, 1, 1, 0, 1, 0}, {3, 11, "x", 7, 2, 2, 8, 1, 4, 0},
		{23, 11, "x", 11, 4, 9, 3, 0, 0, 1}, {23, 11, "x", 12, 4, 9, 3, 0, 0, 1}, {23, 11, "x", 5, 4, 9, 0, 0, 0, 1}, {23, 11, "x", 5, 4, 9, 11, 0, 0, 1}, {23, 11, "x", 5, 4, 9, 12, 0, 0, 1},
		{23, 11, "x", 5, 0, 9, 3, 0, 0, 1}, {23, 11, "x", 5, 23, 9, 3, 0, 0, 1}, {23, 11, "x", 5, 27, 9, 3, 0, 0, 1},
		{23, 11, "x", 5, 4, 0, 3, 0, 0, 1}, {23, 11, "x", 5, 4, 23, 3, 0, 0, 1}, {23, 11, "x", 5, 4, 32, 3, 0, 0, 1},
		{2, 11, "x", 5, 2, 1, 3, 0, 0, 1}, {2, 11, "x", 5, 1, 0, 3, 0, 0, 1}, {1, 11, "x", 5, 0, 0, 3, 0, 0, 1}, {1, 11, "x", 5, 1, 1, 3, 0, 0, 1}, {0, 11, "x", 5, 4, 9, 3, 0, 0, 1}, {0, 11, "x", 0, 0, 0, 3, 0, 0, 1},
		{23, 2, "x", 2, 4, 9, 1, 0, 0, 1}, {23, 2, "x", 1, 4, 9, 2, 0, 0, 1}, {23, 1, "x", 0, 4, 9, 0, 0, 0, 1}, {23, 1, "x", 0, 4, 9, 1, 0, 0, 1}, {23, 0, "x", 0, 4, 9, 0, 0, 0, 1}, {23, 0, "x", 0, 4, 9, 1, 0, 0, 1},
	} {
		k := task{api.Group{P: of(r.p), Q: of(r.q)}, r.as, of(r.x), of(r.base), of(r.y), of(r.draw)}
		isProve(t, k, api.Proof{C: of(r.c), S: of(r.s)}, r.wrong)
	}
}

// P14.1: likewise, of long numbers.
func TestProveOfLongOnesByHand(t *testing.T) {
	g := groupsThatMayBe()[4]
	x, draw := digits("12345678901234567890123456789"), digits("98765432109876543210")
	isProve(t, task{g, "share", x, of(4), of(9), draw}, api.Proof{
		C: digits("25437972635574712239602123387353002712873117097340373070293945774111436698294"),
		S: digits("36753548079871205536129258973852481693739561049415822635080609583651702381797"),
	}, api.OK)
	isProve(t, task{g, "", x, of(9), of(4), draw}, api.Proof{
		C: digits("9280617391962971075372574919838205571746208801004372499206826303664745805207"),
		S: digits("21600867326463316472631966882031578382257964064387526333507282392296864593563"),
	}, api.OK)
	g = of255()
	isProve(t, task{g, "open", more(g.Q, -1), of(9), more(g.P, -1), more(g.Q, -2)}, api.Proof{
		C: digits("16722803666599191361476045667192857861437827505764142549560200033252359030712"),
		S: digits("12225335136659406252331253341443048807291768238922983098488276208711970553157"),
	}, api.OK)
	g = api.Group{P: highest(), Q: highest()}
	isProve(t, task{g, "open", more(g.Q, -1), more(g.P, -1), of(7), more(g.Q, -2)}, api.Proof{
		C: digits("96124590234757288173705411019601046393498788746834041934037814564053063669741"),
		S: digits("19667499002558907249865573989086861459771195918806522105419769443860065970192"),
	}, api.OK)
}

// six: the numbers that the chapter names, in their order.
func six(k task) []*big.Int {
	raised := func(a, n api.Num) *big.Int { return new(big.Int).Exp(bigOf(a), bigOf(n), bigOf(k.g.P)) }
	return []*big.Int{bigOf(k.base), raised(k.base, k.x), bigOf(k.y), raised(k.y, k.x), raised(k.base, k.draw), raised(k.y, k.draw)}
}

// halves: the number, twice as long, that the text and six numbers tell, and one byte more behind them, which says which half.
func halves(k task) api.Num {
	b := []byte{0, 0, byte(len(k.as) >> 8), byte(len(k.as))}
	b = append(b, k.as...)
	b = append(b, 0, 0, 0, 7)
	for _, n := range six(k) {
		b = append(b, 0, 0, 0, 32)
		b = append(b, n.FillBytes(make([]byte, 32))...)
	}
	b = append(b, 0, 0, 0, 1)
	high, low := sha256.Sum256(append(slices.Clone(b), 0)), sha256.Sum256(append(slices.Clone(b), 1))
	n := new(big.Int).SetBytes(append(high[:], low[:]...))
	return numOf(n.Mod(n, bigOf(k.g.Q)))
}

// anyTask: of a group's own numbers, one that may be proved.
func anyTask(r *rand.Rand, g api.Group) task {
	return task{g, anyText(r), one(r, g.Q), g.G, g.H, exponent(r, g.Q)}
}

// P14.1: the challenge is hashes.Number of the six parts that the chapter names, in their order, as the text; and so it is by the library's own sums.
func TestChallenge(t *testing.T) {
	r := rand.New(rand.NewSource(1))
	for _, g := range groupsThatMayBe() {
		for _, as := range someTexts() {
			for range 3 {
				k := task{g, as, one(r, g.Q), exponent(r, g.P), exponent(r, g.P), exponent(r, g.Q)}
				var parts [][]byte
				for _, n := range six(k) {
					parts = append(parts, n.FillBytes(make([]byte, 32)))
				}
				want, wrong := hashes.Number(g.Q, as, parts...)
				if p, e := k.prove(); p.C != want || p.C != halves(k) || e != api.OK || wrong != api.OK {
					t.Errorf("Prove(%x): C %x, %d, not %x, %d, nor %x", k, p.C, e, want, wrong, halves(k))
				}
			}
		}
	}
}

// P14.1: S is the draw and x times C, as scalars tells it.
func TestProveByScalars(t *testing.T) {
	r := rand.New(rand.NewSource(2))
	for _, g := range groupsThatMayBe() {
		for range 20 {
			k := anyTask(r, g)
			p, wrong := k.prove()
			product, e := scalars.Mul(g, k.x, p.C)
			s, f := scalars.Add(g, k.draw, product)
			if e != api.OK || f != api.OK || wrong != api.OK || p.S != s {
				t.Errorf("Prove(%x): %x, %d, not S %x (%d, %d)", k, p, wrong, s, e, f)
			}
		}
	}
}

// endsOf: 0, 1, Q (or P) less one, itself, one more, the highest, and one between.
func endsOf(r *rand.Rand, q api.Num) []api.Num {
	return append(tooGreat(q), of(0), of(1), more(q, -1), exponent(r, q))
}

// P14.1: x, and a draw, at both ends of what may be and beyond, each by itself and both. x may be 0, a draw may not.
func TestProveOfXsAndDraws(t *testing.T) {
	r := rand.New(rand.NewSource(3))
	for _, g := range groupsThatMayBe() {
		for _, x := range endsOf(r, g.Q) {
			for _, draw := range endsOf(r, g.Q) {
				k := anyTask(r, g)
				k.x, k.draw = x, draw
				may := below(x, g.Q) && draw != of(0) && below(draw, g.Q)
				if !may {
					isProve(t, k, api.Proof{}, api.ErrArg)
				} else if !checkProve(t, k) {
					t.Errorf("Prove(%x) may be", k)
				}
			}
		}
	}
}

// P14.1: a base, and a y, at both ends of what may be and beyond, each by itself and both; they need not be of the group.
func TestProveOfBasesAndYs(t *testing.T) {
	r := rand.New(rand.NewSource(4))
	for _, g := range groupsThatMayBe() {
		numbers := append(endsOf(r, g.P), of(5), g.G, g.H)
		for _, n := range []api.Num{plus(g.P, g.G), plus(g.P, g.H), plus(g.P, of(5))} {
			// Beyond 2^256 there is nothing.
			if below(g.P, n) {
				numbers = append(numbers, n)
			}
		}
		for _, base := range numbers {
			for _, y := range numbers {
				for _, x := range []api.Num{of(0), exponent(r, g.Q)} {
					k := anyTask(r, g)
					k.x, k.base, k.y = x, base, y
					may := base != of(0) && below(base, g.P) && y != of(0) && below(y, g.P)
					if !may {
						isProve(t, k, api.Proof{}, api.ErrArg)
					} else if !checkProve(t, k) {
						t.Errorf("Prove(%x) may be", k)
					}
				}
			}
		}
	}
}

// P14.1: by all orders and all numbers by which products go round, whether they make a group or not.
func TestProveByMany(t *testing.T) {
	r := rand.New(rand.NewSource(5))
	for _, q := range orders() {
		for _, p := range modules() {
			g := api.Group{P: p, Q: q, G: one(r, highest()), H: one(r, highest())}
			k := task{g, anyText(r), one(r, q), exponent(r, p), exponent(r, p), exponent(r, q)}
			checkProve(t, k)
			for _, n := range endsOf(r, q) {
				checkProve(t, task{g, k.as, n, k.base, k.y, k.draw})
				checkProve(t, task{g, k.as, k.x, k.base, k.y, n})
			}
			for _, n := range endsOf(r, p) {
				checkProve(t, task{g, k.as, k.x, n, k.y, k.draw})
				checkProve(t, task{g, k.as, k.x, k.base, n, k.draw})
			}
		}
	}
}

// P14.1: by P up to 5 and Q up to 4, all there is, also bases that may not be multiplied, and exponents that are none.
func TestProveOfAllSmall(t *testing.T) {
	eachBelow := func(limit uint64, try func(one, two api.Num)) {
		for one := range limit {
			for two := range limit {
				try(of(one), of(two))
			}
		}
	}
	proved := 0
	for p := range uint64(6) {
		for q := range uint64(5) {
			eachBelow(p+2, func(base, y api.Num) {
				eachBelow(q+2, func(x, draw api.Num) {
					if checkProve(t, task{api.Group{P: of(p), Q: of(q)}, "x", x, base, y, draw}) {
						proved++
					}
				})
			})
		}
	}
	// 1, 4, 9 and 16 times 2, 6 and 12.
	if proved != 30*20 {
		t.Errorf("%d proved", proved)
	}
}

// P14.1: by Q 0 and 1 there is no draw, so nothing is proved; by 2, 0 and 1 are, by the draw 1 alone.
func TestProveBySmallQ(t *testing.T) {
	l := []api.Num{of(0), of(1), of(2), of(3), near(64, 0), highest()}
	for _, p := range modules() {
		for _, q := range nothingGoesRound() {
			for _, x := range l {
				for _, draw := range l {
					isProve(t, task{api.Group{P: p, Q: q}, "x", x, of(1), more(p, -1), draw}, api.Proof{}, api.ErrArg)
				}
			}
		}
		for _, x := range l {
			for _, draw := range l {
				may := checkProve(t, task{api.Group{P: p, Q: of(2)}, "x", x, of(1), more(p, -1), draw})
				if may != (below(x, of(2)) && draw == of(1)) {
					t.Errorf("by P %x, x %x and draw %x: %t", p, x, draw, may)
				}
			}
		}
	}
}

// P14.1: by P 0 and 1 nothing may be multiplied; by 2, 1 alone.
func TestProveBySmallP(t *testing.T) {
	r := rand.New(rand.NewSource(6))
	l := []api.Num{of(0), of(1), of(2), of(3), near(64, 0), highest()}
	for _, q := range orders() {
		for _, base := range l {
			for _, y := range l {
				for _, p := range nothingGoesRound() {
					isProve(t, task{api.Group{P: p, Q: q}, "x", one(r, q), base, y, exponent(r, q)}, api.Proof{}, api.ErrArg)
				}
				may := checkProve(t, task{api.Group{P: of(2), Q: q}, "x", one(r, q), base, y, exponent(r, q)})
				if may != (base == of(1) && y == of(1)) {
					t.Errorf("by Q %x, base %x and y %x: %t", q, base, y, may)
				}
			}
		}
	}
}

// P14.1: all texts count, each byte of them; so do all bits of the base and of y.
func TestProveOfWhatIsUnlike(t *testing.T) {
	k := task{of255(), "share", of(5), of(4), of(9), of(3)}
	tasks := []task{k}
	add := func(changed task) { tasks = append(tasks, changed) }
	for i := range k.as {
		other := []byte(k.as)
		other[i] ^= 1
		add(task{k.g, string(other), k.x, k.base, k.y, k.draw})
		add(task{k.g, k.as[:i], k.x, k.base, k.y, k.draw})
		add(task{k.g, k.as + k.as[:i+1], k.x, k.base, k.y, k.draw})
	}
	for bit := range uint(255) {
		changed := near(bit, 0)
		add(task{k.g, k.as, k.x, plus(changed, k.base), k.y, k.draw})
		add(task{k.g, k.as, k.x, k.base, plus(changed, k.y), k.draw})
	}
	add(task{k.g, k.as, k.x, k.y, k.base, k.draw})
	add(task{k.g, k.as, k.draw, k.base, k.y, k.x})
	add(task{k.g, k.as, k.x, k.base, k.y, of(4)})
	add(task{k.g, k.as, of(6), k.base, k.y, k.draw})
	add(task{k.g, k.as, of(0), k.base, k.y, k.draw})
	seen := map[api.Proof]task{}
	for _, one := range tasks {
		checkProve(t, one)
		p, _ := one.prove()
		if was, twice := seen[p]; twice {
			t.Errorf("%x proves what %x does", one, was)
		}
		seen[p] = one
	}
}

// P14.1: neither G nor H is asked for.
func TestProveAsksNotForGAndH(t *testing.T) {
	r := rand.New(rand.NewSource(7))
	for _, g := range groupsThatMayBe() {
		k := anyTask(r, g)
		want, wrong := k.told()
		for _, n := range []api.Num{of(0), of(1), g.P, g.Q, highest()} {
			for _, k.g = range []api.Group{{P: g.P, Q: g.Q, G: n, H: g.H}, {P: g.P, Q: g.Q, G: g.G, H: n}, {P: g.P, Q: g.Q, G: n, H: n}} {
				isProve(t, k, want, wrong)
			}
		}
	}
}

// P14.1, R1: a text may be long.
func TestProveAsLongTexts(t *testing.T) {
	for _, many := range []int{65535, 65536, 1 << 20} {
		k := task{example(), strings.Repeat("y", many), of(5), of(4), of(9), of(3)}
		checkProve(t, k)
		isCheck(t, made(t, k), true)
	}
}
