package primes_test

import (
	"math/big"
	"math/rand"
	"reflect"
	"slices"
	"testing"

	"balefire/api"
	"balefire/divides"
	"balefire/limbs"
	"balefire/primes"
)

func leaves(t *testing.T, n, d api.Num) bool {
	t.Helper()
	_, left, e := divides.Div(n, d)
	return e == api.OK && left != api.Num{}
}

// P7.3: whoever divides it, but 1 and itself, has something left: small ones, those of its own less one, and great ones.
func TestWhateverHoldsIsPrime(t *testing.T) {
	some := rand.New(rand.NewSource(9))
	for _, r := range many(t) {
		if !primes.Check(r) || !isPrime(bigOf(r.N)) {
			t.Errorf("%d", bigOf(r.N))
		}
		for d := uint64(2); d < 3000; d++ {
			if !leaves(t, r.N, of(d)) && r.N != of(d) {
				t.Errorf("%d divides %d", d, bigOf(r.N))
			}
		}
		half := limbs.Shift(r.N, -1)
		great := []api.Num{half, numOf(less(bigOf(r.N))), numOf(new(big.Int).Sqrt(bigOf(r.N)))}
		for bits := 2; bits < limbs.Bits(r.N); bits++ {
			n := new(big.Int).Rand(some, near(uint(bits), 1, 0))
			great = append(great, numOf(n.Add(n, big.NewInt(2))))
		}
		for _, part := range r.Parts {
			great = append(great, part.N)
		}
		for _, d := range great {
			if d != r.N && !leaves(t, r.N, d) {
				t.Errorf("%d divides %d", bigOf(d), bigOf(r.N))
			}
		}
		if leaves(t, r.N, of(1)) || leaves(t, r.N, r.N) || divides.Common(r.N, half) != of(1) {
			t.Errorf("%d by 1 and by itself", bigOf(r.N))
		}
	}
}

// P7.3: a product of two that hold doesn't, by the parts of either, and by both.
func TestProductsNeverHold(t *testing.T) {
	l := []api.Reason{{N: of(4294967291)}, {N: of(65537)}, sixty(t), chain(t, 2), chain(t, 8), known(t)[2]}
	for _, a := range l {
		for _, b := range l {
			n := new(big.Int).Mul(bigOf(a.N), bigOf(b.N))
			fits(t, n)
			for _, parts := range [][]api.Reason{{a}, {b}, {a, b}, {b, a}, a.Parts, b.Parts, smalls(2), nil} {
				for _, w := range []api.Num{{}, of(1), of(2), of(3), a.Witness, a.N, b.N, numOf(less(n))} {
					if primes.Check(api.Reason{N: numOf(n), Witness: w, Parts: parts}) {
						t.Errorf("%d times %d", bigOf(a.N), bigOf(b.N))
					}
				}
			}
		}
	}
}

// changed: a reason, changed somewhere.
func changed(some *rand.Rand, r api.Reason, others []api.Reason) api.Reason {
	r.Parts = slices.Clone(r.Parts)
	if len(r.Parts) > 0 && some.Intn(3) == 0 {
		i := some.Intn(len(r.Parts))
		r.Parts[i] = changed(some, r.Parts[i], others)
		return r
	}
	other := others[some.Intn(len(others))]
	switch some.Intn(9) {
	case 0:
		r.N[some.Intn(api.Words)] ^= 1 << some.Intn(64)
	case 1:
		r.Witness[some.Intn(api.Words)] ^= 1 << some.Intn(64)
	case 2:
		r.Witness = of(some.Uint64() >> some.Intn(64))
	case 3:
		r.Parts = append(r.Parts, other)
	case 4:
		r.Parts = append([]api.Reason{other}, r.Parts...)
	case 5:
		r.Parts = r.Parts[:some.Intn(len(r.Parts)+1)]
	case 6:
		some.Shuffle(len(r.Parts), func(i, j int) { r.Parts[i], r.Parts[j] = r.Parts[j], r.Parts[i] })
	case 7:
		r.N = other.N
	case 8:
		r.Parts = other.Parts
	}
	return r
}

// P7.2: what holds, changed once and twice, is as the chapter's words have it.
func TestCheckOfChangedOnes(t *testing.T) {
	some := rand.New(rand.NewSource(11))
	l := append(many(t), smalls(2, 3, 7, 65537)...)
	l = append(l, sixty(t), chain(t, 30))
	holds := 0
	for _, r := range l {
		for range 30 {
			r := changed(some, r, l)
			if some.Intn(2) == 0 {
				r = changed(some, r, l)
			}
			want := len(broken(r)) == 0
			if got := primes.Check(r); got != want {
				t.Errorf("%v: %t, %q", r, got, broken(r))
			}
			if want {
				holds++
			}
		}
	}
	if holds < 100 {
		t.Errorf("only %d hold", holds)
	}
}

// roomy: a reason whose lists have spare room, in which other ones lie.
func roomy(r api.Reason) api.Reason {
	var parts []api.Reason
	for _, part := range r.Parts {
		parts = append(parts, roomy(part))
	}
	all := append(slices.Clip(parts), smalls(3, 4, 4294967291)...)
	r.Parts = all[:len(r.Parts)]
	return r
}

// whole: a copy, with what lies in the spare room.
func whole(r api.Reason) api.Reason {
	all := r.Parts[:cap(r.Parts)]
	r.Parts = nil
	for _, part := range all {
		r.Parts = append(r.Parts, whole(part))
	}
	return r
}

// R4, R5: what is handed in stays, its spare room does not count, and asked again the answer is the same.
func TestWhatIsHandedInStays(t *testing.T) {
	l := []api.Reason{{N: of(7)}, {N: of(9)}, sixty(t), chain(t, 5), by(chain(t, 5), big.NewInt(1)), with(sixty(t), smalls(3, 2)...), chain(t, 33)}
	for _, r := range append(l, known(t)...) {
		in := roomy(r)
		was := whole(in)
		want := len(broken(r)) == 0
		for range 3 {
			if got := primes.Check(in); got != want {
				t.Errorf("%v: %t", r, got)
			}
		}
		if !reflect.DeepEqual(whole(in), was) {
			t.Errorf("%v: changed", r)
		}
	}
}

// R4: changed behind the call, it is as if it had been handed in so; nothing is kept.
func TestWhatIsHandedInIsNotKept(t *testing.T) {
	r := chain(t, 6)
	mustHold(t, r)
	r.Parts[0].Parts[0].Witness[0]++
	if got, want := primes.Check(r), len(broken(r)) == 0; got != want {
		t.Errorf("changed: %t", got)
	}
	r.Parts[0].Parts[0].Parts = nil
	mustFail(t, r, badPart)
	mustHold(t, chain(t, 6))
}

// R1: a list that lies within itself, in whatever way.
func TestReasonsOfThemselves(t *testing.T) {
	good := chain(t, 3)
	one := make([]api.Reason, 1)
	one[0] = with(good, one...)
	two := make([]api.Reason, 40)
	for i := range two {
		two[i] = with(good, two...)
	}
	here, there := make([]api.Reason, 1), make([]api.Reason, 1)
	here[0], there[0] = with(good, there...), with(good, here...)
	small := make([]api.Reason, 1)
	small[0] = api.Reason{N: of(7), Parts: small}
	behind := make([]api.Reason, 2)
	behind[0], behind[1] = api.Reason{N: of(7)}, with(good, behind...)
	l := []api.Reason{one[0], two[0], two[39], here[0], there[0], small[0], behind[1]}
	for _, parts := range [][]api.Reason{one, two, here, there, small, behind} {
		l = append(l, with(good, parts...), api.Reason{N: of(7), Parts: parts}, api.Reason{Parts: parts})
	}
	for i, r := range l {
		if primes.Check(r) {
			t.Errorf("%d: holds", i)
		}
	}
}

// R1: reasons nested deeply, each twice in the next, and very many beside one another.
func TestManyReasons(t *testing.T) {
	good := chain(t, 2)
	deep, twice := good, good
	for range 1 << 16 {
		deep = with(good, deep)
	}
	for range 200 {
		twice = with(good, twice, twice)
	}
	wide := make([]api.Reason, 1<<17)
	for i := range wide {
		wide[i] = good.Parts[0]
	}
	for _, r := range []api.Reason{deep, twice, with(good, wide...), with(good, make([]api.Reason, 1<<17)...), {N: of(7), Parts: wide}} {
		if primes.Check(r) {
			t.Errorf("%d: holds", bigOf(r.N))
		}
	}
}

// R1: whatever numbers there are, also such as nothing is divided by.
func TestCheckOfAnything(t *testing.T) {
	l := []api.Num{of(0), of(1), of(2), of(3), of(4), of(7), of(beyond - 1), of(beyond), of(beyond + 1), of(most), {0, 1}, {1, 1}, {0, 0, 0, 1 << 63}, {1, 0, 0, 1 << 63}, {most - 1, most, most, most}, {most, most, most, most}}
	for _, n := range l {
		for _, w := range l {
			for _, p := range l {
				for _, parts := range [][]api.Reason{{{N: p}}, {{N: p}, {N: w}}, {{N: p, Witness: w, Parts: smalls(2)}}} {
					r := api.Reason{N: n, Witness: w, Parts: parts}
					if got, want := primes.Check(r), len(broken(r)) == 0; got != want {
						t.Errorf("%v: %t, %q", r, got, broken(r))
					}
				}
			}
		}
	}
}
