package shares_test

import (
	"math/rand"
	"slices"
	"testing"

	"balefire/api"
	"balefire/polys"
	"balefire/scalars"
	"balefire/shares"
)

// P11.1: the chapter's Examples.
func TestExamplesOfShares(t *testing.T) {
	isOf(t, example(), list(1, 2), 3, list(3, 5, 7), api.OK)
	isSecrets(t, example(), list(1, 2), 2, list(10, 8), api.OK)
	isOf(t, example(), list(1, 2), 8, nil, api.ErrArg)
	isSecrets(t, example(), list(1, 2), 0, nil, api.ErrArg)
}

// P11.1: told by hand.
func TestSharesByHand(t *testing.T) {
	for _, r := range []struct {
		q         api.Num
		p         []api.Num
		of, below []api.Num
	}{
		{of(11), nil, list(0, 0, 0, 0, 0, 0, 0), list(0, 0, 0)},
		{of(11), list(7), list(7, 7, 7, 7, 7, 7, 7), list(7, 7, 7)},
		{of(11), list(0, 1), list(1, 2, 3, 4, 5, 6, 7), list(10, 9, 8)},
		{of(11), list(0, 0, 1), list(1, 4, 9, 5, 3, 3, 5), list(1, 4, 9)},
		{of(11), list(1, 2), list(3, 5, 7, 9, 0, 2, 4), list(10, 8, 6)},
		{of(11), list(1, 2, 3), list(6, 6, 1, 2, 9, 0, 8), list(2, 9, 0)},
		{of(11), list(0, 0, 0, 10), list(10, 3, 6, 2, 7, 4, 9), list(1, 8, 5)},
		{of(12), list(0, 3), list(3, 6, 9, 0, 3, 6, 9), list(9, 6, 3)},
		{of(2), list(0, 1), list(1, 0, 1, 0, 1, 0, 1), list(1, 0, 1)},
		{of(2), list(1, 1, 1), list(1, 1, 1, 1, 1, 1, 1), list(1, 1, 1)},
		{of(3), list(0, 1), list(1, 2, 0, 1, 2, 0, 1), list(2, 1, 0)},
		{of(7), list(0, 1), list(1, 2, 3, 4, 5, 6, 0), list(6, 5, 4)},
		{highest(), list(0, 1), list(1, 2, 3, 4, 5, 6, 7), []api.Num{more(highest(), -1), more(highest(), -2), more(highest(), -3)}},
		{highest(), []api.Num{of(1), more(highest(), -1)}, []api.Num{of(0), more(highest(), -1), more(highest(), -2), more(highest(), -3), more(highest(), -4), more(highest(), -5), more(highest(), -6)}, list(2, 3, 4)},
		{of(0), nil, nil, nil}, {of(1), nil, nil, nil}, {of(1), list(0), nil, nil},
		{of(11), list(11), nil, nil}, {of(11), list(1, 12), nil, nil}, {of(2), list(1, 1, 2), nil, nil},
	} {
		for many := 1; many <= api.MaxNodes; many++ {
			if r.of == nil {
				isOf(t, by(r.q), r.p, many, nil, api.ErrArg)
			} else {
				isOf(t, by(r.q), r.p, many, r.of[:many], api.OK)
			}
		}
		for many := 1; many <= api.MaxSecrets; many++ {
			if r.of == nil {
				isSecrets(t, by(r.q), r.p, many, nil, api.ErrArg)
			} else {
				isSecrets(t, by(r.q), r.p, many, r.below[:many], api.OK)
			}
		}
	}
}

// P11.1: so many as may be, and no others, whatever the polynomial is, and by whatever Q.
func TestHowManyMayBe(t *testing.T) {
	for _, q := range append(orders(), nothingGoesRound()...) {
		for _, p := range [][]api.Num{nil, {of(0)}, {of(1), of(1)}, {q}, {of(1), highest(), of(1)}} {
			for nodes := 1; nodes <= api.MaxNodes; nodes++ {
				checkOf(t, by(q), p, nodes)
			}
			for many := 1; many <= api.MaxSecrets; many++ {
				checkSecrets(t, by(q), p, many)
			}
			for _, many := range outside(api.MaxNodes) {
				isOf(t, by(q), p, many, nil, api.ErrArg)
			}
			for _, many := range append(outside(api.MaxSecrets), api.MaxNodes) {
				isSecrets(t, by(q), p, many, nil, api.ErrArg)
			}
		}
	}
}

// P11.1, R4: of no coefficients all are 0, whether there is a list or not, and room in it.
func TestSharesOfNone(t *testing.T) {
	for _, p := range [][]api.Num{nil, {}, make([]api.Num, 0, 5), {highest(), highest()}} {
		for _, q := range orders() {
			isOf(t, by(q), p[:0], api.MaxNodes, make([]api.Num, api.MaxNodes), api.OK)
			isOf(t, by(q), p[:0], 1, list(0), api.OK)
			isSecrets(t, by(q), p[:0], api.MaxSecrets, make([]api.Num, api.MaxSecrets), api.OK)
			isSecrets(t, by(q), p[:0], 1, list(0), api.OK)
		}
		for _, q := range nothingGoesRound() {
			isOf(t, by(q), p[:0], 1, nil, api.ErrArg)
			isSecrets(t, by(q), p[:0], 1, nil, api.ErrArg)
		}
	}
}

// P11.1: of one they are that one.
func TestSharesOfOne(t *testing.T) {
	for _, q := range orders() {
		for _, c := range ends(q) {
			isOf(t, by(q), []api.Num{c}, api.MaxNodes, slices.Repeat([]api.Num{c}, api.MaxNodes), api.OK)
			isSecrets(t, by(q), []api.Num{c}, api.MaxSecrets, slices.Repeat([]api.Num{c}, api.MaxSecrets), api.OK)
		}
	}
}

// P11.1: of many, more of them than nodes, too.
func TestSharesOfMany(t *testing.T) {
	r := rand.New(rand.NewSource(1))
	for _, q := range orders() {
		for many := range 12 {
			p := some(r, q, many)
			for nodes := 1; nodes <= api.MaxNodes; nodes++ {
				checkOf(t, by(q), p, nodes)
			}
			for secrets := 1; secrets <= api.MaxSecrets; secrets++ {
				checkSecrets(t, by(q), p, secrets)
			}
		}
		p := some(r, q, 300)
		checkOf(t, by(q), p, api.MaxNodes)
		checkSecrets(t, by(q), p, api.MaxSecrets)
	}
}

// P11.1: each coefficient by itself, so that each point tells its power.
func TestSharesOfEachPlace(t *testing.T) {
	for _, q := range orders() {
		for place := range 6 {
			for _, c := range ends(q) {
				p := with(make([]api.Num, 6), place, c)
				checkOf(t, by(q), p, api.MaxNodes)
				checkSecrets(t, by(q), p, api.MaxSecrets)
			}
		}
	}
}

// P11.1: in each place by itself a coefficient that is Q, one more, or the highest number.
func TestSharesOfWhatIsNotBelow(t *testing.T) {
	r := rand.New(rand.NewSource(2))
	for _, q := range orders() {
		for many := 1; many < 6; many++ {
			p := some(r, q, many)
			for i := range p {
				for _, great := range tooGreat(q) {
					isOf(t, by(q), with(p, i, great), 1+i, nil, api.ErrArg)
					isOf(t, by(q), with(p, i, great), api.MaxNodes, nil, api.ErrArg)
					isSecrets(t, by(q), with(p, i, great), 1, nil, api.ErrArg)
					isSecrets(t, by(q), with(p, i, great), api.MaxSecrets, nil, api.ErrArg)
				}
				checkOf(t, by(q), with(p, i, more(q, -1)), api.MaxNodes)
				checkSecrets(t, by(q), with(p, i, more(q, -1)), api.MaxSecrets)
			}
		}
	}
}

// P11.1: by Q 0 and 1 there are no exponents.
func TestSharesByNoughtAndOne(t *testing.T) {
	for _, q := range nothingGoesRound() {
		for _, a := range []api.Num{of(0), of(1), of(2), highest()} {
			for many := range 4 {
				for nodes := 1; nodes <= api.MaxNodes; nodes++ {
					isOf(t, by(q), slices.Repeat([]api.Num{a}, many), nodes, nil, api.ErrArg)
				}
				for secrets := 1; secrets <= api.MaxSecrets; secrets++ {
					isSecrets(t, by(q), slices.Repeat([]api.Num{a}, many), secrets, nil, api.ErrArg)
				}
			}
		}
	}
}

// P11.1: neither P nor G nor H is asked.
func TestSharesAskForQAlone(t *testing.T) {
	for _, q := range append(orders(), nothingGoesRound()...) {
		for _, g := range others(q) {
			for _, p := range [][]api.Num{nil, {of(1)}, {of(0), of(1), of(1)}, {of(1), q}} {
				checkOf(t, g, p, api.MaxNodes)
				checkSecrets(t, g, p, api.MaxSecrets)
			}
		}
	}
}

// P11.1: what polys.At tells at the points of the chapter's words.
func TestSharesAreValues(t *testing.T) {
	r := rand.New(rand.NewSource(3))
	for _, q := range append(orders(), nothingGoesRound()...) {
		for _, p := range [][]api.Num{nil, {of(0), of(1)}, {of(1), q, of(1)}, some(r, more(q, 2), 4)} {
			l, e := shares.Of(by(q), p, api.MaxNodes)
			s, wrong := shares.Secrets(by(q), p, api.MaxSecrets)
			for i := range int64(api.MaxNodes) {
				n, want := polys.At(by(q), p, scalars.Of(by(q), i+1))
				if e != want || e == api.OK && l[i] != n {
					t.Errorf("Of(%x, %x): %x, %d at %d, not %x, %d", q, p, l, e, i, n, want)
				}
			}
			for i := range int64(api.MaxSecrets) {
				n, want := polys.At(by(q), p, scalars.Of(by(q), -i-1))
				if wrong != want || wrong == api.OK && s[i] != n {
					t.Errorf("Secrets(%x, %x): %x, %d at %d, not %x, %d", q, p, s, wrong, i, n, want)
				}
			}
		}
	}
}
