package primes_test

import (
	"math/big"
	"slices"
	"testing"

	"balefire/api"
	"balefire/primes"
)

// with: the reason, by these parts.
func with(r api.Reason, parts ...api.Reason) api.Reason {
	r.Parts = parts
	return r
}

// by: the reason, with this witness.
func by(r api.Reason, w *big.Int) api.Reason {
	r.Witness = numOf(w)
	return r
}

// sixty: a reason of 2^61 - 1 by all the primes that divide it less one.
func sixty(t *testing.T) api.Reason {
	t.Helper()
	return proved(t, near(61, 1, -1), smalls(2, 3, 5, 7, 11, 13, 31, 41, 61, 151, 331, 1321)...)
}

// P7.2: one reason more than MaxWitness, all together, and many more; what is counted is each place, whether two are alike or not.
func TestCheckOfTooManyReasons(t *testing.T) {
	wide := row(t, api.MaxWitness)
	deep := chain(t, api.MaxWitness+1)
	both := twice(t, 14, false)
	both.Parts = append(smalls(2), both.Parts...)
	both = proved(t, next(both.Parts...), both.Parts...)
	for _, r := range []api.Reason{wide, deep, both, twice(t, 14, true)} {
		if count(r) != api.MaxWitness+1 {
			t.Fatalf("%d reasons", count(r))
		}
		mustFail(t, r, tooMany)
	}
	for many := api.MaxWitness + 1; many < api.MaxWitness+8; many++ {
		mustFail(t, row(t, many), tooMany)
	}
	mustFail(t, twice(t, 15, true), tooMany)
	mustFail(t, twice(t, 16, false), tooMany)
}

// P7.2: of the same numbers one fewer is not too many.
func TestCheckOfOneReasonFewer(t *testing.T) {
	wide := row(t, api.MaxWitness)
	mustHold(t, with(wide, wide.Parts[1:]...))
	mustHold(t, with(wide, wide.Parts[:api.MaxWitness-1]...))
	mustHold(t, with(wide, slices.Concat(wide.Parts[:7], wide.Parts[8:])...))
	mustHold(t, chain(t, api.MaxWitness+1).Parts[0])
}

// P7.2: each two neighbours change their places, and all of them do.
func TestCheckOfPartsThatDontRise(t *testing.T) {
	for _, r := range []api.Reason{sixty(t), known(t)[1], known(t)[2], row(t, 12)} {
		mustHold(t, r)
		for i := range len(r.Parts) - 1 {
			parts := slices.Clone(r.Parts)
			parts[i], parts[i+1] = parts[i+1], parts[i]
			mustFail(t, with(r, parts...), noRise)
		}
		parts := slices.Clone(r.Parts)
		slices.Reverse(parts)
		mustFail(t, with(r, parts...), noRise)
	}
}

// P7.2: they rise by all of their words, not by the lowest.
func TestCheckOfPartsThatRiseByTheirGreatWords(t *testing.T) {
	low := api.Reason{N: of(4294967291)}
	times := int64(1)
	for ; !isPrime(near(64, times, 1)); times++ {
	}
	high := proved(t, near(64, times, 1), smalls(2)...)
	r := proved(t, next(low, high), low, high)
	mustHold(t, r)
	mustFail(t, with(r, high, low), noRise)
}

// P7.2: a part twice: where F reaches without it, and where only the second one would make it do so; also with another reason of the same number.
func TestCheckOfAPartTwice(t *testing.T) {
	for _, r := range []api.Reason{sixty(t), known(t)[1], chain(t, 3), row(t, 12)} {
		for i := range r.Parts {
			mustFail(t, with(r, slices.Insert(slices.Clone(r.Parts), i, r.Parts[i])...), noRise)
		}
	}
	mustFail(t, breaking(t, near(61, 1, -1), smalls(1321), tooShort), tooShort)
	mustFail(t, breaking(t, near(61, 1, -1), smalls(1321, 1321, 1321, 1321), noRise, tooShort), noRise, tooShort)
	part := proved(t, near(32, 1, 15), smalls(364289)...)
	other := proved(t, near(32, 1, 15), smalls(2, 364289)...)
	r := proved(t, next(part), part)
	mustHold(t, with(r, other))
	mustFail(t, with(r, part, other), noRise)
	mustFail(t, with(r, other, part), noRise)
}

// P7.2: of a great one, at whatever depth: a number that is not prime, a witness, a part; all else holds.
func TestCheckOfAPartThatDoesNotHold(t *testing.T) {
	for deep := range 10 {
		for _, bad := range []api.Reason{{N: of(4294967291), Witness: of(2)}, {N: of(4294967291), Parts: smalls(2)}, {N: of(4294967289)}} {
			mustFail(t, above(t, bad, deep+1), badPart)
		}
		part := chain(t, 2)
		mustFail(t, above(t, by(part, big.NewInt(1)), deep+1), badPart)
		mustFail(t, above(t, with(part), deep+1), badPart)
		mustFail(t, above(t, with(part, part.Parts[0], part.Parts[0]), deep+1), badPart)
	}
}

// above: so many reasons, each the only part of the next, that hold if r does.
func above(t *testing.T, r api.Reason, many int) api.Reason {
	t.Helper()
	for range many {
		r = proved(t, next(r), r)
	}
	return r
}

// P7.2: a part that is not prime, whatever its place is, though it divides N less one, and all else holds.
func TestCheckOfAPartThatIsNotPrime(t *testing.T) {
	n := near(61, 1, -1)
	for _, parts := range [][]uint64{
		{61 * 151 * 331 * 1321}, {6, 61, 151, 331, 1321}, {9, 61, 151, 331, 1321}, {61, 151, 1321, 331 * 25}, {61, 65, 151, 331, 1321},
	} {
		mustFail(t, breaking(t, n, smalls(parts...)), badPart)
	}
	composite := sixty(t)
	composite.N = numOf(new(big.Int).Mul(big.NewInt(4294967291), big.NewInt(4294967279)))
	mustFail(t, above(t, composite, 1), badPart)
	// It holds by all but the power of its witness.
	mustFail(t, above(t, passable(t, chain(t, 3)), 1), badPart)
}

// P7.2: what divides nothing: 0, 1, N, and what is above it. Each call ends.
func TestCheckOfPartsThatAreNone(t *testing.T) {
	for _, r := range []api.Reason{sixty(t), chain(t, 2), known(t)[0]} {
		mustFail(t, with(r, append(smalls(0), r.Parts...)...), badPart, noDivisor)
		mustFail(t, with(r, append(smalls(1), r.Parts...)...), badPart, inCommon)
		mustFail(t, with(r, append(slices.Clone(r.Parts), r)...), noDivisor, inCommon)
		mustFail(t, with(r, smalls(0)...), badPart, noDivisor, tooShort)
		mustFail(t, with(r, smalls(1)...), badPart, inCommon, tooShort)
		mustFail(t, with(r, smalls(0, 0, 1, 1)...), badPart, noDivisor, noRise, tooShort, inCommon)
	}
}

// P7.2: a prime that does not divide N less one, whatever its place is; all else holds.
func TestCheckOfAPartThatDoesNotDivide(t *testing.T) {
	for _, p := range []uint64{17, 19, 23, 149, 157, 1319, 1327, 65537, 4294967291} {
		r := sixty(t)
		place, _ := slices.BinarySearchFunc(r.Parts, of(p), func(part api.Reason, n api.Num) int { return bigOf(part.N).Cmp(bigOf(n)) })
		mustFail(t, with(r, slices.Insert(slices.Clone(r.Parts), place, smalls(p)...)...), noDivisor)
	}
	for _, r := range []api.Reason{chain(t, 2), chain(t, 9), known(t)[0]} {
		mustFail(t, with(r, append(smalls(9973), r.Parts...)...), noDivisor)
	}
	r := chain(t, 12)
	mustFail(t, with(r, sixty(t), r.Parts[0]), noDivisor)
	// It divides N and one more.
	mustFail(t, breaking(t, near(36, 3, 1), smalls(2, 5), noDivisor), noDivisor)
}

// P7.2: F's square is below N, by as little as it can be; one step further it is above.
func TestCheckOfProductsThatAreTooSmall(t *testing.T) {
	for _, c := range [][2]int64{{1, 10}, {2, 9}, {9, 5}, {13, 3}, {19, 29}, {30, 21}, {44, 13}, {31, 61}, {75, 33}} {
		f := power23(c)
		n := f.Mul(f, new(big.Int).Add(f, big.NewInt(1)))
		r := breaking(t, n.Add(n, big.NewInt(1)), smalls(2, 3), tooShort)
		mustFail(t, r, tooShort)
	}
	mustFail(t, breaking(t, near(61, 1, -1), nil, tooShort), tooShort)
	mustFail(t, breaking(t, near(255, 1, -19), nil, tooShort), tooShort)
}

// P7.2: the parts are taken away, the greatest first, till F does not reach any more.
func TestCheckOfFewerAndFewerParts(t *testing.T) {
	for _, r := range []api.Reason{sixty(t), known(t)[1], row(t, 12), row(t, 31)} {
		for many := len(r.Parts); many >= 0; many-- {
			fewer := with(r, r.Parts[:many]...)
			f := productOf(fewer)
			if f.Mul(f, f).Cmp(bigOf(r.N)) > 0 {
				mustHold(t, fewer)
			} else {
				mustFail(t, fewer, tooShort)
			}
		}
	}
}

// P7.2: a part counts with the greatest of its powers: with the one below it F would not reach.
func TestCheckOfPowersOfParts(t *testing.T) {
	for _, p := range []uint64{2, 3, 5, 7, 257, 65537, 4294967291} {
		for often := int64(2); often < 40; often++ {
			f := new(big.Int).Exp(new(big.Int).SetUint64(p), big.NewInt(often), nil)
			if f.BitLen() < 18 || f.BitLen() > 128 {
				continue
			}
			k := less(f)
			for ; !isPrime(behindProduct(f, k)); k = less(k) {
			}
			n := behindProduct(f, k)
			one := new(big.Int).Div(f, new(big.Int).SetUint64(p))
			if one.Mul(one, one).Cmp(n) > 0 {
				t.Fatalf("%d to the power of %d", p, often)
			}
			mustHold(t, proved(t, n, smalls(p)...))
		}
	}
}

// P7.2: a witness is above 1 and below N: 0, 1, N, and those above it that leave what a good one leaves.
func TestCheckOfWitnessesThatMayNotBe(t *testing.T) {
	for _, r := range []api.Reason{sixty(t), chain(t, 2), chain(t, 12), known(t)[2], row(t, 12)} {
		n, w := bigOf(r.N), bigOf(r.Witness)
		mustFail(t, by(r, big.NewInt(0)), outside, noFermat)
		mustFail(t, by(r, big.NewInt(1)), outside, inCommon)
		mustFail(t, by(r, n), outside, noFermat)
		mustFail(t, by(r, new(big.Int).Add(n, big.NewInt(1))), outside, inCommon)
		mustFail(t, by(r, new(big.Int).Add(n, w)), outside)
		mustFail(t, by(r, w.Add(w, n.Lsh(n, 3))), outside)
	}
}

// P7.2: 2^256 less one is as any other that is too great, and in one word alone.
func TestCheckOfTheHighestWitness(t *testing.T) {
	for _, r := range []api.Reason{sixty(t), known(t)[0]} {
		for _, w := range []api.Num{{most, most, most, most}, {0, 0, 0, 1 << 63}} {
			r.Witness = w
			if primes.Check(r) {
				t.Errorf("of %d by %x", bigOf(r.N), w)
			}
		}
	}
}

// passable: a reason by that part of a number that is not prime, though only the power of its witness tells.
func passable(t *testing.T, part api.Reason) api.Reason {
	t.Helper()
	for k := int64(2); ; k += 2 {
		r := api.Reason{N: numOf(behindProduct(bigOf(part.N), big.NewInt(k))), Witness: of(2), Parts: []api.Reason{part}}
		if slices.Equal(brokenAlone(r), []string{noFermat}) {
			return r
		}
	}
}

// P7.2: its power by N less one does not leave 1: of numbers of all sizes that are not prime.
func TestCheckOfPowersThatDontLeaveOne(t *testing.T) {
	part := api.Reason{N: of(4294967291)}
	for range 25 {
		r := passable(t, part)
		mustFail(t, r, noFermat)
		for w := uint64(3); w < 20; w++ {
			r.Witness = of(w)
			if slices.Equal(broken(r), []string{noFermat}) {
				mustFail(t, r, noFermat)
			}
		}
		part = proved(t, next(part), part)
	}
}

// P7.2: the witness is a power by a part: then, of that part alone, all of N is in common.
func TestCheckOfWitnessesThatArePowers(t *testing.T) {
	for _, r := range []api.Reason{sixty(t), chain(t, 5), chain(t, 9), row(t, 12), known(t)[0], known(t)[1], known(t)[2]} {
		for _, part := range r.Parts {
			w := new(big.Int).Exp(bigOf(r.Witness), bigOf(part.N), bigOf(r.N))
			mustFail(t, by(r, w), inCommon)
		}
	}
}
