package shas_test

import (
	"bytes"
	"slices"
	"sync"
	"testing"

	"balefire/api"
	"balefire/shas"
)

// roomy: a list of so many bytes, with spare room behind it that is not noughts.
func roomy(many int) []byte { return random(int64(many), many+100)[:many] }

func whole(b []byte) []byte { return b[:cap(b)] }

// spoil: every byte of a list and of its spare room is another one.
func spoil(b []byte) {
	for i := range whole(b) {
		whole(b)[i] ^= 255
	}
}

// R4
func TestWhatIsHandedInStays(t *testing.T) {
	for many := range 200 {
		b := roomy(many)
		was := slices.Clone(whole(b))
		shas.Of(b)
		s := shas.New()
		s.Write(b)
		s.Hash()
		s.Write(b)
		if !bytes.Equal(whole(b), was) {
			t.Errorf("%d bytes: changed", many)
		}
	}
}

// R4: changed behind the call, bytes change no sum.
func TestWhatIsHandedInIsNotKept(t *testing.T) {
	for first := range 130 {
		for _, second := range []int{0, 1, 63, 64, 100} {
			w := begin(t)
			for _, many := range []int{first, second} {
				b := roomy(many)
				w.write(b)
				spoil(b)
				w.check()
			}
			w.check()
		}
	}
}

// R4: one list, written again and again with other bytes.
func TestOneListForAllParts(t *testing.T) {
	w := begin(t)
	b := make([]byte, 50)
	for i := range 30 {
		copy(b, random(int64(i), len(b)))
		w.write(b[:20+i])
		spoil(b)
	}
	w.check()
}

// R4: what is answered is no part of the sum.
func TestAnAnswerIsNew(t *testing.T) {
	w := begin(t)
	w.write(random(1, 100))
	h := w.sum.Hash()
	spoil(h[:])
	w.check()
	w.write(random(2, 100))
	w.check()
}

// R5
func TestTheSameAgain(t *testing.T) {
	var first []api.Hash
	for round := range 3 {
		for many := range 150 {
			h := shas.Of(random(int64(many), many))
			if round == 0 {
				first = append(first, h)
			} else if first[many] != h {
				t.Errorf("%d bytes, again: %x, not %x", many, h, first[many])
			}
		}
	}
}

// R5: what others do at the same time changes nothing.
func TestManyAtOnce(t *testing.T) {
	var all sync.WaitGroup
	for seed := range 8 {
		w := begin(t)
		all.Go(func() {
			for i := range 100 {
				w.write(random(int64(seed*1000+i), seed*9+i))
				w.check()
			}
		})
	}
	all.Wait()
}
