package shas_test

import (
	"crypto/sha256"
	"encoding/hex"
	"strings"
	"testing"

	"balefire/api"
	"balefire/shas"
)

// P5.1, P5.2: the rows of the chapter's examples.
func TestExamples(t *testing.T) {
	if h := shas.Of(nil); hex.EncodeToString(h[:]) != "e3b0c44298fc1c149afbf4c8996fb92427ae41e4649b934ca495991b7852b855" {
		t.Errorf("of none: %x", h)
	}
	abc := "ba7816bf8f01cfea414140de5dae2223b00361a396177a9cb410ff61f20015ad"
	if h := shas.Of([]byte("abc")); hex.EncodeToString(h[:]) != abc {
		t.Errorf("of abc: %x", h)
	}
	s := shas.New()
	if one, two := s.Write([]byte("a")), s.Write([]byte("bc")); one != api.OK || two != api.OK {
		t.Errorf("a, then bc: %d, %d", one, two)
	}
	if h := s.Hash(); hex.EncodeToString(h[:]) != abc {
		t.Errorf("of a, then bc: %x", h)
	}
}

// P5.1: what FIPS 180-4's own examples tell, so that not one other program alone is asked.
func TestOfTextsThatAreKnown(t *testing.T) {
	for text, digits := range map[string]string{
		"abcdbcdecdefdefgefghfghighijhijkijkljklmklmnlmnomnopnopq":                                                         "248d6a61d20638b8e5c026930c3e6039a33ce45964ff2167f6ecedd419db06c1",
		"abcdefghbcdefghicdefghijdefghijkefghijklfghijklmghijklmnhijklmnoijklmnopjklmnopqklmnopqrlmnopqrsmnopqrstnopqrstu": "cf5b16a778af8380036ce59e7b0492370b249b11e8f07a51afac45037afee9d1",
		strings.Repeat("a", 1000000): "cdc76e5c9914fb9281a1c7e284d73e67f1809a48a497200e046d39ccc7112cd0",
	} {
		if h := shas.Of([]byte(text)); hex.EncodeToString(h[:]) != digits {
			t.Errorf("of %d bytes: %x, not %s", len(text), h, digits)
		}
	}
}

// P5.1: the last block is met in every way, 55, 56, 63, 64, 65, 119, 120 and 128 bytes among them.
func TestOfEveryLength(t *testing.T) {
	for many := range 400 {
		for what, b := range [][]byte{full(0, many), full(1, many), full(127, many), full(128, many), full(255, many), random(int64(many), many)} {
			if h := shas.Of(b); h != want(b) {
				t.Errorf("%d bytes, %d: %x, not %x", many, what, h, want(b))
			}
		}
	}
}

// P5.1: each bit of a block counts, the highest of each byte too.
func TestOfEachBit(t *testing.T) {
	for _, many := range []int{1, 55, 56, 64, 65} {
		b := make([]byte, many)
		for bit := range 8 * many {
			b[bit/8] ^= 1 << (bit % 8)
			if h := shas.Of(b); h != want(b) {
				t.Errorf("%d bytes, bit %d: %x, not %x", many, bit, h, want(b))
			}
			b[bit/8] = 0
		}
	}
}

// P5.1: every byte there is, alone and twice.
func TestOfEachByte(t *testing.T) {
	for x := range 256 {
		for many := range 3 {
			b := full(byte(x), many)
			if h := shas.Of(b); h != want(b) {
				t.Errorf("%v: %x, not %x", b, h, want(b))
			}
		}
	}
}

// P5.1: how many bits there were takes two bytes, then three, then four.
func TestOfManyBytes(t *testing.T) {
	for _, around := range []int{32, 8192, api.MaxBytes, 2097152} {
		for many := around - 1; many <= around+1; many++ {
			b := random(int64(many), many)
			if h := shas.Of(b); h != want(b) {
				t.Errorf("%d bytes: %x, not %x", many, h, want(b))
			}
		}
	}
}

// P5.1, P5.2: and five, at last.
func TestOfMoreBitsThanFourBytesTell(t *testing.T) {
	t.Parallel()
	part := random(1, 1<<20)
	s, other := shas.New(), sha256.New()
	for range 512 {
		s.Write(part)
		other.Write(part)
	}
	if h := s.Hash(); h != api.Hash(other.Sum(nil)) {
		t.Errorf("512 times %d bytes: %x, not %x", len(part), h, other.Sum(nil))
	}
}

// R4: empty and nil mean the same, room to spare or none.
func TestOfNone(t *testing.T) {
	for _, b := range [][]byte{nil, {}, make([]byte, 0, 100), full(255, 100)[:0], full(255, 100)[100:]} {
		if h := shas.Of(b); h != want(nil) {
			t.Errorf("none, %d spare: %x", cap(b), h)
		}
	}
}
