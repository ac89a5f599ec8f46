package hashes_test

import (
	"bytes"
	"crypto/sha256"
	"math/rand"
	"testing"

	"balefire/api"
	"balefire/hashes"
	"balefire/shas"
)

func checkOf(t *testing.T, w what) {
	t.Helper()
	h := hashes.Of(w.as, w.parts...)
	if want := shas.Of(w.bytes()); h != want {
		t.Errorf("Of(%.20q, %d parts): %x, not %x", w.as, len(w.parts), h, want)
	}
	if want := sha256.Sum256(w.bytes()); h != want {
		t.Errorf("Of(%.20q, %d parts): %x, not the library's %x", w.as, len(w.parts), h, want)
	}
}

// P6.1: the chapter's example, its bytes written out.
func TestExampleOfParts(t *testing.T) {
	want := shas.Of([]byte{0, 0, 0, 1, 'x', 0, 0, 0, 2, 0, 0, 0, 1, 'a', 0, 0, 0, 2, 'b', 'c'})
	if h := hashes.Of("x", []byte("a"), []byte("bc")); h != want {
		t.Errorf("%x, not %x", h, want)
	}
}

// P6.1: others whose bytes are written out.
func TestOfBytesThatAreWrittenOut(t *testing.T) {
	for _, c := range []struct {
		h    api.Hash
		want []byte
	}{
		{hashes.Of(""), make([]byte, 8)},
		{hashes.Of("", nil), []byte{0, 0, 0, 0, 0, 0, 0, 1, 0, 0, 0, 0}},
		{hashes.Of("", []byte{}), []byte{0, 0, 0, 0, 0, 0, 0, 1, 0, 0, 0, 0}},
		{hashes.Of("", nil, []byte{}), []byte{0, 0, 0, 0, 0, 0, 0, 2, 0, 0, 0, 0, 0, 0, 0, 0}},
		{hashes.Of("x"), []byte{0, 0, 0, 1, 'x', 0, 0, 0, 0}},
		{hashes.Of("x", nil), []byte{0, 0, 0, 1, 'x', 0, 0, 0, 1, 0, 0, 0, 0}},
		{hashes.Of("\xff\x00", []byte{0}, nil, []byte{255, 0}), []byte{0, 0, 0, 2, 255, 0, 0, 0, 0, 3, 0, 0, 0, 1, 0, 0, 0, 0, 0, 0, 0, 0, 2, 255, 0}},
		{hashes.Of("sign", bytes.Repeat([]byte{9}, 258)), append([]byte{0, 0, 0, 4, 's', 'i', 'g', 'n', 0, 0, 0, 1, 0, 0, 1, 2}, bytes.Repeat([]byte{9}, 258)...)},
	} {
		if want := shas.Of(c.want); c.h != want {
			t.Errorf("of %.30v: %x, not %x", c.want, c.h, want)
		}
	}
}

// P6.1: no part, one, many, empty and nil ones, of any bytes, as anything.
func TestOf(t *testing.T) {
	for _, w := range whats() {
		checkOf(t, w)
	}
}

// P6.1: bytes of every length, as the part, and as what.
func TestOfEveryLength(t *testing.T) {
	for many := range 300 {
		b := random(int64(many), many)
		checkOf(t, what{"x", [][]byte{b}})
		checkOf(t, what{"x", [][]byte{nil, b, {1}}})
		checkOf(t, what{string(b), list("a")})
	}
}

// P6.1: how many there are takes one byte, then two, then three; and there is an end to it.
func TestOfManyParts(t *testing.T) {
	for _, many := range []int{255, 256, 257, 65535, 65536, 65537, 1 << 20} {
		parts := make([][]byte, many)
		checkOf(t, what{"x", parts})
		parts[0], parts[many-1] = []byte{1}, []byte{2, 3}
		checkOf(t, what{"x", parts})
	}
}

// P6.1: how many bytes there are takes three bytes, then four.
func TestOfLongParts(t *testing.T) {
	for _, many := range []int{1<<16 - 1, 1 << 16, 1<<24 - 1, 1<<24 + 3} {
		b := random(int64(many), many)
		checkOf(t, what{"x", [][]byte{b, {1}}})
		checkOf(t, what{string(b), nil})
	}
}

// P6.1: whatever they are.
func TestOfAnyParts(t *testing.T) {
	some := rand.New(rand.NewSource(6))
	for range 2000 {
		w := what{as: string(random(some.Int63(), some.Intn(20)))}
		for range some.Intn(8) {
			w.parts = append(w.parts, random(some.Int63(), some.Intn(150)))
		}
		checkOf(t, w)
	}
}
