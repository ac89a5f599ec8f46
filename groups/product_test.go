package groups_test

import (
	"math/big"
	"math/rand"
	"slices"
	"testing"

	"balefire/api"
	"balefire/groups"
)

// list: small numbers.
func list(l ...uint64) []api.Num {
	var out []api.Num
	for _, n := range l {
		out = append(out, of(n))
	}
	return out
}

// product: what the chapter's words have, as big numbers tell it.
func product(g api.Group, a, n []api.Num) (api.Num, api.Errno) {
	p := bigOf(g.P)
	if p.Cmp(big.NewInt(1)) <= 0 || len(a) != len(n) || slices.ContainsFunc(a, func(a api.Num) bool { return !may(g, a) }) {
		return api.Num{}, api.ErrArg
	}
	all := big.NewInt(1)
	for i := range a {
		all.Mul(all, new(big.Int).Exp(bigOf(a[i]), bigOf(n[i]), p)).Mod(all, p)
	}
	return numOf(all), api.OK
}

func checkProduct(t *testing.T, g api.Group, a, n []api.Num) {
	t.Helper()
	want, wrong := product(g, a, n)
	if got, e := groups.Product(g, a, n); got != want || e != wrong {
		t.Errorf("Product(%x, %x, %x): %x, %d, not %x, %d", g.P, a, n, got, e, want, wrong)
	}
}

// P8.4: the chapter's Examples, and others that are told by hand.
func TestProduct(t *testing.T) {
	for _, c := range []struct {
		p     uint64
		a, n  []api.Num
		want  uint64
		wrong api.Errno
	}{
		{23, list(4, 9), list(1, 2), 2, 0},
		{23, list(4), nil, 0, 1},
		{23, list(4, 9), list(2, 1), 6, 0},
		{23, list(4, 4, 4), list(3, 3, 5), 1, 0},
		{23, list(4, 9), list(0, 0), 1, 0},
		{23, list(5, 14), list(7, 7), 1, 0},
		{23, list(5), list(1), 5, 0},
		{12, list(3, 4), list(1, 1), 0, 0},
		{12, list(3, 4, 5), list(1, 1, 1), 0, 0},
		{12, list(6, 5), list(2, 0), 0, 0},
		{12, list(3, 4, 0), list(1, 1, 0), 0, 1},
		{2, list(1, 1, 1), list(0, 1, 5), 1, 0},
		{23, nil, nil, 1, 0},
		{2, nil, nil, 1, 0},
		{1, nil, nil, 0, 1},
		{0, nil, nil, 0, 1},
		{1, list(0), list(1), 0, 1},
		{0, list(1), list(0), 0, 1},
		{23, list(0), list(0), 0, 1},
		{23, list(23), list(1), 0, 1},
		{23, nil, list(1), 0, 1},
	} {
		got, e := groups.Product(by(of(c.p)), c.a, c.n)
		tells(t, "Product", got, e, c.want, c.wrong)
	}
}

// P8.4, R4: of none it is 1, whether there is a list or not, and room in it.
func TestProductOfNone(t *testing.T) {
	empty := [][]api.Num{nil, {}, make([]api.Num, 0, 5), list(4, 9)[:0]}
	for _, p := range append(moduli(t), of(0), of(1)) {
		for _, a := range empty {
			for _, n := range empty {
				checkProduct(t, by(p), a, n)
			}
		}
	}
}

// P8.4: of one it is that power.
func TestProductOfOne(t *testing.T) {
	for _, p := range moduli(t) {
		for _, a := range numbers(p) {
			for _, n := range []api.Num{of(0), of(1), of(5), p, highest()} {
				checkProduct(t, by(p), []api.Num{a}, []api.Num{n})
				got, e := groups.Product(by(p), []api.Num{a}, []api.Num{n})
				if want, wrong := groups.Exp(by(p), a, n); got != want || e != wrong {
					t.Errorf("Product(%x, %x, %x): %x, %d", p, a, n, got, e)
				}
			}
		}
	}
}

// some: so many numbers that may be multiplied by p, and as many exponents, short and long ones.
func some(r *rand.Rand, p api.Num, many int) (a, n []api.Num) {
	for range many {
		a = append(a, numOf(new(big.Int).Add(new(big.Int).Rand(r, less(bigOf(p))), big.NewInt(1))))
		n = append(n, numOf(new(big.Int).Rand(r, near(uint(1+r.Intn(allBits)), 1, 0))))
	}
	return a, n
}

// P8.4: of two up to many.
func TestProductOfMany(t *testing.T) {
	r := rand.New(rand.NewSource(4))
	for _, p := range moduli(t) {
		for many := range 12 {
			a, n := some(r, p, many)
			checkProduct(t, by(p), a, n)
		}
	}
	for _, m := range []made{example(), great(t)[0]} {
		a, n := some(r, m.g.P, 400)
		checkProduct(t, m.g, a, n)
	}
}

// P8.4: whatever is small: all numbers, all places.
func TestProductOfSmallOnes(t *testing.T) {
	for p := range uint64(9) {
		for a := range p + 2 {
			for b := range p + 2 {
				for n := range uint64(4) {
					for k := range uint64(4) {
						checkProduct(t, by(of(p)), list(a, b), list(n, k))
					}
				}
			}
		}
	}
}

// P8.4: as many exponents as numbers; one fewer, one more, and none.
func TestProductOfOthersThanAsMany(t *testing.T) {
	r := rand.New(rand.NewSource(5))
	for _, m := range append(great(t)[:3], example()) {
		for many := range 10 {
			a, n := some(r, m.g.P, many+1)
			for _, l := range [][2][]api.Num{{a, n[:many]}, {a[:many], n}, {a, nil}, {nil, n}, {a, append(slices.Clone(n), of(0))}, {append(slices.Clone(a), of(1)), n}} {
				got, e := groups.Product(m.g, l[0], l[1])
				tells(t, "Product", got, e, 0, api.ErrArg)
			}
			checkProduct(t, m.g, a, n)
			checkProduct(t, m.g, a[:many], n[:many])
		}
	}
}

// P8.4: in each place, the first one, the midst, the last one: a number that may not be multiplied, whatever its exponent is.
func TestProductOfWhatMayNotBeMultiplied(t *testing.T) {
	r := rand.New(rand.NewSource(6))
	for _, p := range moduli(t) {
		wrong := []api.Num{of(0), p, highest()}
		if p != highest() {
			wrong = append(wrong, more(p, 1))
		}
		for many := 1; many < 6; many++ {
			a, n := some(r, p, many)
			for i := range many {
				for _, w := range wrong {
					for _, k := range []api.Num{n[i], of(0), of(1)} {
						b, l := slices.Clone(a), slices.Clone(n)
						b[i], l[i] = w, k
						got, e := groups.Product(by(p), b, l)
						tells(t, "Product", got, e, 0, api.ErrArg)
					}
				}
			}
			checkProduct(t, by(p), a, n)
		}
	}
}

// P8.4: by P 0 and 1 there is none, of whatever.
func TestProductByNoughtAndOne(t *testing.T) {
	for _, p := range list(0, 1) {
		for many := range 4 {
			for _, a := range []api.Num{of(0), of(1), of(2), highest()} {
				for _, n := range []api.Num{of(0), of(1), highest()} {
					got, e := groups.Product(by(p), slices.Repeat([]api.Num{a}, many), slices.Repeat([]api.Num{n}, many))
					tells(t, "Product", got, e, 0, api.ErrArg)
				}
			}
		}
	}
}

// P8.4: each exponent goes with its own number, and all of its bits count.
func TestProductOfEachBit(t *testing.T) {
	for _, m := range great(t)[:2] {
		for i := range uint(allBits) {
			bit := numOf(near(i, 1, 0))
			checkProduct(t, m.g, []api.Num{m.g.G, m.g.H, of(3)}, []api.Num{bit, of(3), of(0)})
			checkProduct(t, m.g, []api.Num{m.g.G, m.g.H, of(3)}, []api.Num{of(0), of(3), bit})
		}
	}
}

// P8.4: neither Q nor G nor H is asked, nor whether a number is of the group.
func TestProductAsksForPAlone(t *testing.T) {
	r := rand.New(rand.NewSource(7))
	for _, m := range all(t) {
		a, n := some(r, m.g.P, 3)
		for _, other := range []api.Num{of(0), of(1), m.g.P, highest()} {
			checkProduct(t, api.Group{P: m.g.P, Q: other, G: other, H: other}, a, n)
		}
	}
}
