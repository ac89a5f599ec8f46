package primes_test

import (
	"math/big"
	"math/rand"
	"testing"

	"balefire/api"
	"balefire/primes"
)

// P7.2: the chapter's Examples.
func TestCheck(t *testing.T) {
	mustHold(t, api.Reason{N: of(7)})
	mustFail(t, api.Reason{N: of(9)}, notPrime)
	mustFail(t, api.Reason{N: of(7), Witness: of(3)}, hasWitness)
}

// P7.2: numbers that are told by themselves, or not at all.
func TestCheckOfSmallOnes(t *testing.T) {
	for n := range uint64(3000) {
		for _, at := range []uint64{n, n + 64000, beyond - 1 - n} {
			r := api.Reason{N: of(at)}
			if got, want := primes.Check(r), new(big.Int).SetUint64(at).ProbablyPrime(0); got != want {
				t.Errorf("of %d: %t", at, got)
			}
		}
	}
	mustHold(t, api.Reason{N: of(2), Parts: []api.Reason{}})
	mustHold(t, api.Reason{N: of(4294967291), Parts: make([]api.Reason, 0, 5)})
	mustFail(t, api.Reason{}, notPrime)
	mustFail(t, api.Reason{N: of(1)}, notPrime)
}

// P7.2: a small one has neither a witness nor parts, though by them it would hold if it were greater.
func TestCheckOfSmallOnesWithWhatMayNotBeThere(t *testing.T) {
	for _, n := range []uint64{2, 3, 7, 23, 65537, 4294967291} {
		for _, w := range []api.Num{of(1), of(2), of(3), of(n - 1), of(n), {0, 1}, {0, 0, 1}, {0, 0, 0, 1}, {most, most, most, most}} {
			mustFail(t, api.Reason{N: of(n), Witness: w}, hasWitness)
			mustFail(t, api.Reason{N: of(n), Witness: w, Parts: smalls(2)}, hasWitness, hasParts)
		}
		mustFail(t, api.Reason{N: of(n), Parts: smalls(2)}, hasParts)
		mustFail(t, api.Reason{N: of(n), Parts: smalls(n)}, hasParts)
		mustFail(t, api.Reason{N: of(n), Parts: make([]api.Reason, 1)}, hasParts, badPart)
	}
	mustFail(t, api.Reason{N: of(65537), Witness: of(3), Parts: smalls(2)}, hasWitness, hasParts)
	mustFail(t, api.Reason{N: of(7), Witness: of(3), Parts: smalls(2, 3)}, hasWitness, hasParts)
	mustFail(t, api.Reason{N: of(4294967291), Witness: of(2), Parts: smalls(divisorsOf(4294967290)...)}, hasWitness, hasParts)
}

// P7.2: from 2^32 on no number is small, whatever its lowest words are.
func TestCheckOfGreatOnesAlone(t *testing.T) {
	for _, n := range []api.Num{
		of(beyond), of(4294967311), of(beyond + 7), of(1<<61 - 1), of(most - 58), of(most),
		{7, 1}, {7, 0, 1}, {7, 0, 0, 1}, {4294967291, 0, 0, 1 << 63}, {2, most, most, most}, {most, most, most, most},
	} {
		r := api.Reason{N: n}
		mustFail(t, r, tooShort, outside, noFermat)
		r.Witness = of(1)
		mustFail(t, r, tooShort, outside)
	}
}

// P7.2: each row was told by others; the witnesses are written out.
func TestCheckOfNumbersThatAreKnown(t *testing.T) {
	for _, c := range []struct {
		n       *big.Int
		witness uint64
		parts   []api.Reason
	}{
		{near(32, 1, 15), 3, smalls(364289)},
		{near(32, 1, 15), 3, smalls(2, 364289)},
		{near(32, 1, 15), 13, smalls(2, 3, 5, 131, 364289)},
		{near(36, 3, 1), 11, smalls(2)},
		{near(36, 3, 1), 22, smalls(2, 3)},
		{near(41, 3, 1), 5, smalls(2)},
		{near(61, 1, -1), 37, smalls(2, 3, 5, 7, 11, 13, 31, 41, 61, 151, 331, 1321)},
		{near(61, 1, -1), 3, smalls(61, 151, 331, 1321)},
		{near(246, 529, 1), 3, smalls(2)},
		{near(245, 1899, 1), 13, smalls(2)},
	} {
		mustHold(t, api.Reason{N: numOf(c.n), Witness: of(c.witness), Parts: c.parts})
	}
}

// known: great primes that others know, whose parts have parts.
func known(t *testing.T) []api.Reason {
	t.Helper()
	ten := proved(t, digits("1919519569386763"), smalls(127, 8574133)...)
	eleven := proved(t, digits("72106336199"), smalls(divisorsOf(72106336198)...)...)
	seventeen := proved(t, digits("31757755568855353"), smalls(4153, 430751)...)
	middle := proved(t, digits("75445702479781427272750846543864801"), append(smalls(75707), eleven, ten)...)
	great := proved(t, digits("74058212732561358302231226437062788676166966415465897661863160754340907"), seventeen, middle)
	third := proved(t, digits("77158673929"), smalls(divisorsOf(77158673928)...)...)
	return []api.Reason{
		proved(t, near(255, 1, -19), great),
		proved(t, near(255, 1, -19), append(smalls(2, 3, 65147), great)...),
		proved(t, near(127, 1, -1), append(smalls(92737, 649657), third)...),
		proved(t, near(64, 1, -59), proved(t, digits("5594472617641"), smalls(divisorsOf(5594472617640)...)...)),
		great, middle, seventeen,
	}
}

// P7.2
func TestCheckOfPartsWithParts(t *testing.T) {
	for _, r := range known(t) {
		mustHold(t, r)
	}
}

// many: reasons that hold, of numbers of 33 up to 256 bits.
func many(t *testing.T) []api.Reason {
	t.Helper()
	some := rand.New(rand.NewSource(33))
	l := known(t)
	for bits := 33; bits <= allBits; bits++ {
		l = append(l, grown(t, some, bits))
	}
	return append(l, chain(t, 2), chain(t, 7), row(t, 10), row(t, 20))
}

// P7.2
func TestCheckOfAllSizes(t *testing.T) {
	for _, r := range many(t) {
		mustHold(t, r)
	}
}

// P7.2: just above 2^32 there is a witness of the primes, and, by whatever parts and witness, none of the others.
func TestCheckOfTheFirstThatAreNotSmall(t *testing.T) {
	for n := uint64(beyond); n < beyond+200; n++ {
		parts := smalls(divisorsOf(n - 1)...)
		holds := false
		for w := range uint64(60) {
			r := api.Reason{N: of(n), Witness: of(w), Parts: parts}
			if got, want := primes.Check(r), len(broken(r)) == 0; got != want {
				t.Errorf("of %d, by %d: %t, %q", n, w, got, broken(r))
			}
			holds = holds || primes.Check(r)
		}
		if holds != new(big.Int).SetUint64(n).ProbablyPrime(0) {
			t.Errorf("of %d: %t", n, holds)
		}
	}
}

// P7.2: the witness may be great; the one before the last that is below N takes the place of 2, where 2 is not among the parts.
func TestCheckOfTheGreatestWitness(t *testing.T) {
	for _, r := range []api.Reason{known(t)[0], chain(t, 2), chain(t, 9)} {
		r.Witness = of(2)
		mustHold(t, r)
		n := bigOf(r.N)
		r.Witness = numOf(n.Sub(n, big.NewInt(2)))
		mustHold(t, r)
	}
}

// P7.2: F is above N's root, by as little as it can be; and its square far above 2^256.
func TestCheckOfProductsThatJustReach(t *testing.T) {
	for _, c := range [][2]int64{{1, 10}, {3, 9}, {16, 30}, {49, 10}, {23, 66}, {57, 44}} {
		f := power23(c)
		n := f.Mul(f, less(f))
		mustHold(t, proved(t, n.Add(n, big.NewInt(1)), smalls(2, 3)...))
	}
	for _, n := range []*big.Int{near(246, 529, 1), near(246, 757, 1), near(245, 1911, 1), near(244, 3961, 1)} {
		mustHold(t, proved(t, n, smalls(2)...))
	}
}

// power23: so often 2, and so often 3.
func power23(often [2]int64) *big.Int {
	two := new(big.Int).Exp(big.NewInt(2), big.NewInt(often[0]), nil)
	return two.Mul(two, new(big.Int).Exp(big.NewInt(3), big.NewInt(often[1]), nil))
}

// P7.2: MaxWitness of them, all together: in a row, one in another, and both.
func TestCheckOfAsManyReasonsAsMayBe(t *testing.T) {
	for _, r := range []api.Reason{row(t, api.MaxWitness-1), chain(t, api.MaxWitness), twice(t, 14, false)} {
		if count(r) != api.MaxWitness {
			t.Fatalf("%d reasons", count(r))
		}
		mustHold(t, r)
	}
}

// twice: a reason by a row of so many, and by another one that it is itself a part of; with 2 that one has one part more.
func twice(t *testing.T, many int, withTwo bool) api.Reason {
	t.Helper()
	one := row(t, many)
	parts := []api.Reason{one}
	if withTwo {
		parts = append(smalls(2), one)
	}
	two := proved(t, next(one), parts...)
	return proved(t, next(one, two), one, two)
}
