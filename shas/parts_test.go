package shas_test

import (
	"testing"

	"balefire/api"
	"balefire/shas"
)

// edges: lengths about those at which a block ends, or what ends the bytes needs one more.
func edges() []int {
	return []int{0, 1, 2, 31, 54, 55, 56, 57, 62, 63, 64, 65, 66, 118, 119, 120, 121, 127, 128, 129, 183, 184, 191, 192, 193, 320}
}

// P5.2: of no bytes so far, however often it is asked.
func TestNewHasNone(t *testing.T) {
	w := begin(t)
	for range 3 {
		w.check()
	}
	if w.sum == shas.New() {
		t.Error("New answered one twice")
	}
}

// P5.2: a sum that is written at once is Of's.
func TestWrittenAtOnce(t *testing.T) {
	for many := range 400 {
		w := begin(t)
		w.write(random(int64(many), many))
		w.check()
		if h := shas.Of(w.have); h != w.sum.Hash() {
			t.Errorf("%d bytes: Of tells %x", many, h)
		}
	}
}

// P5.3
func TestPartedInEveryPlace(t *testing.T) {
	for _, many := range edges() {
		b := random(int64(many), many)
		for at := range many + 1 {
			w := begin(t)
			w.write(b[:at])
			w.write(b[at:])
			w.check()
		}
	}
}

// P5.3
func TestPartedInTwoPlaces(t *testing.T) {
	for _, many := range []int{56, 64, 65, 130} {
		b := random(int64(many), many)
		for second := range many + 1 {
			for first := range second + 1 {
				w := begin(t)
				w.write(b[:first])
				w.write(b[first:second])
				w.write(b[second:])
				w.check()
			}
		}
	}
}

// P5.3: parts of one size, with none in between.
func TestPartedInManyParts(t *testing.T) {
	for size := 1; size <= 200; size++ {
		b := random(int64(size), 700)
		w := begin(t)
		for len(b) > 0 {
			part := b[:min(size, len(b))]
			b = b[len(part):]
			w.write(nil)
			w.write(part)
			w.write([]byte{})
			w.write(b[:0])
		}
		w.check()
	}
}

// P5.2: none is added by none.
func TestWriteOfNone(t *testing.T) {
	for _, many := range edges() {
		w := begin(t)
		for range 3 {
			w.write(nil)
			w.write([]byte{})
			w.write(full(255, 70)[:0])
		}
		w.check()
		w.write(random(3, many))
		for range 3 {
			w.write(nil)
			w.write([]byte{})
			w.write(full(255, 70)[:0])
		}
		w.check()
	}
}

// P5.2, P5.3: what was written stays, and more may be written.
func TestAskedInBetween(t *testing.T) {
	for _, size := range []int{1, 2, 7, 55, 56, 63, 64, 65, 100, 128, 129} {
		w := begin(t)
		for i := range 300/size + 3 {
			w.write(random(int64(i), size))
			w.check()
			w.check()
		}
	}
}

// P5.2, P5.3: asked for or not, the bytes that follow are taken alike.
func TestAskedOrNot(t *testing.T) {
	for _, first := range edges() {
		for _, second := range edges() {
			asked, silent := begin(t), begin(t)
			for _, w := range []*writer{asked, silent} {
				w.write(random(1, first))
				if w == asked {
					w.check()
				}
				w.write(random(2, second))
				w.check()
			}
			if asked.sum.Hash() != silent.sum.Hash() {
				t.Errorf("%d bytes, then %d: asked for it is another one", first, second)
			}
		}
	}
}

// P5.2, R5: two that are written in turns, and asked in turns.
func TestTwoInTurns(t *testing.T) {
	for _, size := range []int{1, 13, 63, 64, 65} {
		one, two := begin(t), begin(t)
		for i := range 20 {
			one.write(random(int64(i), size))
			two.write(random(int64(-1-i), size+i))
			one.check()
			two.write(nil)
			two.check()
			one.check()
			shas.Of(random(5, 100))
		}
	}
}

// P5.2, R3: one that is not there takes nothing, however often it is written.
func TestOneThatIsNotThere(t *testing.T) {
	var none *shas.Sum
	for what, s := range []*shas.Sum{none, {}, new(shas.Sum)} {
		for _, b := range [][]byte{nil, {}, {1}, full(1, 64), full(1, 200)} {
			if h := s.Hash(); h != (api.Hash{}) {
				t.Errorf("%d: the hash of none is %x", what, h)
			}
			if e := s.Write(b); e != api.ErrNil {
				t.Errorf("%d: %d bytes written: %d", what, len(b), e)
			}
			if h := s.Hash(); h != (api.Hash{}) {
				t.Errorf("%d: %d bytes written, then the hash of none is %x", what, len(b), h)
			}
		}
	}
	w := begin(t)
	w.write([]byte("abc"))
	w.check()
}
