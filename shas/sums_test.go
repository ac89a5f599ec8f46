package shas_test

import (
	"crypto/sha256"
	"math/rand"
	"testing"

	"balefire/api"
	"balefire/shas"
)

// want: what the library's own sum tells.
func want(b []byte) api.Hash { return sha256.Sum256(b) }

// random: bytes that a seed settles.
func random(seed int64, many int) []byte {
	b := make([]byte, many)
	rand.New(rand.NewSource(seed)).Read(b)
	return b
}

// full: so many bytes, all of them x.
func full(x byte, many int) []byte {
	b := make([]byte, many)
	for i := range b {
		b[i] = x
	}
	return b
}

// writer: a sum, and the bytes that it must have.
type writer struct {
	t    *testing.T
	sum  *shas.Sum
	have []byte
}

func begin(t *testing.T) *writer {
	w := &writer{t: t, sum: shas.New()}
	if w.sum == nil {
		t.Fatal("New: none")
	}
	return w
}

func (w *writer) write(b []byte) {
	w.t.Helper()
	if e := w.sum.Write(b); e != api.OK {
		w.t.Errorf("%d bytes behind %d: %d", len(b), len(w.have), e)
	}
	w.have = append(w.have, b...)
}

func (w *writer) check() {
	w.t.Helper()
	if h := w.sum.Hash(); h != want(w.have) {
		w.t.Errorf("of %d bytes: %x, not %x", len(w.have), h, want(w.have))
	}
}
