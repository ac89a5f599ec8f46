package hashes_test

import (
	"crypto/sha256"
	"math/big"
	"math/rand"
	"testing"

	"balefire/api"
	"balefire/divides"
	"balefire/hashes"
	"balefire/limbs"
	"balefire/nums"
	"balefire/shas"
)

// wide: the high and the low words of the number that something makes.
func wide(t *testing.T, w what) (high, low api.Num) {
	t.Helper()
	one, two := shas.Of(w.more([]byte{0}).bytes()), shas.Of(w.more([]byte{1}).bytes())
	high, e := nums.GetLong(one[:])
	low, f := nums.GetLong(two[:])
	if e != api.OK || f != api.OK {
		t.Fatalf("GetLong: %d, %d", e, f)
	}
	return high, low
}

func checkNumber(t *testing.T, m api.Num, w what) {
	t.Helper()
	high, low := wide(t, w)
	want, e := divides.Wide(low, high, m)
	if e != api.OK {
		t.Fatalf("Wide: %d", e)
	}
	if n, e := hashes.Number(m, w.as, w.parts...); n != want || e != api.OK {
		t.Errorf("Number(%x, %.20q, %d parts): %x, %d, not %x", m, w.as, len(w.parts), n, e, want)
	}
}

// P6.2: the chapter's examples.
func TestExamplesOfNumber(t *testing.T) {
	if n, e := hashes.Number(api.Num{1}, "x"); n != (api.Num{}) || e != api.OK {
		t.Errorf("by 1: %x, %d", n, e)
	}
	if n, e := hashes.Number(api.Num{}, "x"); n != (api.Num{}) || e != api.ErrArg {
		t.Errorf("by 0: %x, %d", n, e)
	}
}

// P6.2: one whose bytes are written out, by what tells the high words from the low ones.
func TestNumberOfBytesThatAreWrittenOut(t *testing.T) {
	head := []byte{0, 0, 0, 1, 'x', 0, 0, 0, 3, 0, 0, 0, 1, 'a', 0, 0, 0, 2, 'b', 'c', 0, 0, 0, 1}
	one, two := shas.Of(append(head[:24:24], 0)), shas.Of(append(head[:24:24], 1))
	high, _ := nums.GetLong(one[:])
	low, _ := nums.GetLong(two[:])
	for _, m := range numbers() {
		want, _ := divides.Wide(low, high, m)
		if n, e := hashes.Number(m, "x", list("a", "bc")...); n != want || e != api.OK {
			t.Errorf("by %x: %x, %d, not %x", m, n, e, want)
		}
	}
	// By 2^255 nothing is left of the high words, so it is the low ones that it tells.
	low[3] &= 1<<63 - 1
	if n, e := hashes.Number(api.Num{0, 0, 0, 1 << 63}, "x", list("a", "bc")...); n != low || e != api.OK {
		t.Errorf("by 2^255: %x, %d, not %x", n, e, low)
	}
}

// P6.2: by 1, by 2^255, by the highest one, by those of one word, and others.
func TestNumber(t *testing.T) {
	for _, m := range numbers() {
		for _, as := range []string{"", "x", "sign"} {
			for _, parts := range [][][]byte{nil, {nil}, {{}, nil}, {{0}}, {{1}}, {{0}, {1}}, list("a", "bc"), sized(32, 32, 32), sized(64, 0, 200)} {
				checkNumber(t, m, what{as, parts})
			}
		}
	}
}

// P6.2: of everything that Of is asked of, by some numbers.
func TestNumberOfMany(t *testing.T) {
	for i, w := range whats() {
		l := numbers()
		checkNumber(t, l[i%len(l)], w)
		checkNumber(t, api.Num{most, most, most, most}, w)
	}
	checkNumber(t, api.Num{1, 2, 3, 4}, what{"x", make([][]byte, 1<<18)})
}

// P6.2: what the library's own sums and long numbers tell.
func TestNumberByTheLibrary(t *testing.T) {
	some := rand.New(rand.NewSource(62))
	for range 500 {
		w := what{as: string(random(some.Int63(), some.Intn(9)))}
		for range some.Intn(5) {
			w.parts = append(w.parts, random(some.Int63(), some.Intn(80)))
		}
		high, low := sha256.Sum256(w.more([]byte{0}).bytes()), sha256.Sum256(w.more([]byte{1}).bytes())
		m := random(some.Int63(), 1+some.Intn(32))
		m[len(m)-1] |= 1
		left := new(big.Int).SetBytes(append(high[:], low[:]...))
		left.Mod(left, new(big.Int).SetBytes(m))
		var by, want [32]byte
		copy(by[32-len(m):], m)
		left.FillBytes(want[:])
		number, _ := nums.GetLong(by[:])
		n, e := hashes.Number(number, w.as, w.parts...)
		if got := nums.PutLong(nil, n); [32]byte(got) != want || e != api.OK {
			t.Errorf("by %x: %x, %d, not %x", m, got, e, want)
		}
	}
}

// P6.2, R2: and nothing beside the error, whatever is handed in.
func TestNumberByNought(t *testing.T) {
	for _, w := range whats() {
		if n, e := hashes.Number(api.Num{}, w.as, w.parts...); n != (api.Num{}) || e != api.ErrArg {
			t.Errorf("Number(0, %.20q, %d parts): %x, %d", w.as, len(w.parts), n, e)
		}
	}
}

// P6.2: what is left is below the number by which it is left.
func TestNumberIsBelow(t *testing.T) {
	for _, m := range numbers() {
		for i := range 20 {
			if n, e := hashes.Number(m, "below", random(int64(i), i)); limbs.Cmp(n, m) >= 0 || e != api.OK {
				t.Errorf("by %x: %x, %d", m, n, e)
			}
		}
	}
}
