package hashes_test

import (
	"bytes"
	"slices"
	"strings"
	"testing"

	"balefire/api"
	"balefire/hashes"
)

// unlikes: things that are unlike, though much of them is alike when it is put one behind the other.
func unlikes() []what {
	l := []what{
		{"x", list("a", "bc")}, {"x", list("ab", "c")}, {"x", list("abc")}, {"x", list("a", "b", "c")},
		{"x", list("bc", "a")}, {"x", list("a", "b")}, {"xa", list("bc")}, {"xabc", nil}, {"", list("xabc")},
		{"", list("x", "abc")}, {"", list("x", "a", "bc")}, {"y", list("a", "bc")}, {"X", list("a", "bc")},
		{"x", list("", "abc")}, {"x", list("abc", "")}, {"x", list("", "abc", "")}, {"x", list("", "", "abc")},
		{"x", list("a", "bc", "")}, {"x", list("a", "", "bc")}, {"x", list("a", "bc\x00")}, {"x", list("a", "\x00bc")},
		{"x\x00", list("a", "bc")}, {"\x00x", list("a", "bc")},
		{"sign", sized(32, 32, 32)}, {"sign", sized(96)}, {"sign", sized(64, 32)}, {"propose", sized(32, 32, 32)},
	}
	// One part that holds what others are put as.
	for _, w := range slices.Clone(l) {
		l = append(l, what{"", [][]byte{w.bytes()}}, what{string(w.bytes()), nil})
	}
	for many := range 5 {
		l = append(l, what{"none", make([][]byte, many)}, what{strings.Repeat("\x00", many), nil}, what{"noughts", [][]byte{make([]byte, many+1)}})
	}
	return l
}

// smalls: all that have few bytes, and few parts, of the bytes by which counts are told.
func smalls() []what {
	texts := []string{"", "\x00", "\x01", "\x00\x00", "\x00\x01", "\x01\x00", "\x01\x01"}
	var l []what
	for _, as := range texts {
		l = append(l, what{as, nil})
		for _, one := range texts {
			l = append(l, what{as, list(one)})
			for _, two := range texts {
				l = append(l, what{as, list(one, two)})
				for _, three := range texts {
					l = append(l, what{as, list(one, two, three)})
				}
			}
		}
	}
	return l
}

// checkUnlike: no two of these are hashed of the same bytes, or have the same hash, or number.
func checkUnlike(t *testing.T, l []what) {
	t.Helper()
	put, hash, number := map[string]what{}, map[api.Hash]what{}, map[api.Num]what{}
	for _, w := range l {
		checkOf(t, w)
		if other, there := put[string(w.bytes())]; there {
			t.Errorf("%q and %q: hashed of the same bytes", w, other)
		}
		h := hashes.Of(w.as, w.parts...)
		if other, there := hash[h]; there {
			t.Errorf("%q and %q: the same hash", w, other)
		}
		n, e := hashes.Number(api.Num{most - 188, most, most, most}, w.as, w.parts...)
		if other, there := number[n]; there || e != api.OK {
			t.Errorf("%q and %q: the same number, %d", w, other, e)
		}
		put[string(w.bytes())], hash[h], number[n] = w, w, w
	}
}

// P6.3
func TestUnlikeOnesAreHashedOfUnlikeBytes(t *testing.T) {
	checkUnlike(t, unlikes())
	checkUnlike(t, smalls())
}

// P6.3: one text, parted in every way in two and in three.
func TestPartedElsewhere(t *testing.T) {
	const text = "\x00\x00\x00\x01\x00\x00\x00\x02ab"
	l := []what{{"x", list(text)}}
	for one := range len(text) + 1 {
		l = append(l, what{text[:one], list(text[one:])}, what{"x", list(text[:one], text[one:])})
		for two := one; two <= len(text); two++ {
			l = append(l, what{"x", list(text[:one], text[one:two], text[two:])})
		}
	}
	checkUnlike(t, l)
}

// roomy: a list, with spare room behind it that is not noughts.
func roomy(b []byte) []byte {
	all := append(slices.Clone(b), 201, 202, 203, 204, 205, 206, 207, 208)
	return all[:len(b)]
}

// spare: parts, with spare room behind each, and other parts in the room behind all.
func spare(parts [][]byte) [][]byte {
	var all [][]byte
	for _, part := range parts {
		all = append(all, roomy(part))
	}
	all = append(all, []byte{91}, []byte{92, 93}, []byte{94})
	return all[:len(parts)]
}

// kept: all that parts are, with their spare room.
func kept(parts [][]byte) [][]byte {
	var l [][]byte
	for _, part := range parts[:cap(parts)] {
		l = append(l, slices.Clone(part[:cap(part)]))
	}
	return l
}

// R4
func TestWhatIsHandedInStays(t *testing.T) {
	for _, parts := range manyParts() {
		l := spare(parts)
		was := kept(l)
		w := what{"x", parts}
		checkOf(t, what{"x", l})
		checkNumber(t, api.Num{1, 2, 3, 4}, what{"x", l})
		hashes.Number(api.Num{}, "x", l...)
		if !slices.EqualFunc(kept(l), was, bytes.Equal) {
			t.Errorf("%d parts: changed", len(parts))
		}
		if hashes.Of("x", l...) != hashes.Of(w.as, w.parts...) {
			t.Errorf("%d parts: what lies in the spare room counts", len(parts))
		}
	}
}

// R4, R5: changed behind the call, what was handed in changes no later answer.
func TestWhatIsHandedInIsNotKept(t *testing.T) {
	m := api.Num{most, most, most, most}
	for _, parts := range manyParts() {
		w := what{"x", parts}
		l := spare(parts)
		h := hashes.Of("x", l...)
		n, e := hashes.Number(m, "x", l...)
		for i := range l {
			for k := range l[i] {
				l[i][k] ^= 255
			}
			checkOf(t, what{"x", l})
		}
		if again := hashes.Of(w.as, w.parts...); again != h {
			t.Errorf("%d parts: %x, then %x", len(parts), h, again)
		}
		if again, f := hashes.Number(m, w.as, w.parts...); again != n || e != f {
			t.Errorf("%d parts: %x, then %x", len(parts), n, again)
		}
	}
}

// R4: parts that lie one in the other, or are one.
func TestPartsThatOverlap(t *testing.T) {
	b := random(7, 100)
	was := slices.Clone(b)
	l := [][]byte{b, b, b[:50], b[20:70], b[50:], b[100:]}
	checkOf(t, what{"x", l})
	for _, m := range numbers() {
		checkNumber(t, m, what{"x", l})
	}
	if !bytes.Equal(b, was) {
		t.Errorf("changed: %v", b)
	}
}

// R4: empty and nil mean the same, as all parts, and as one.
func TestEmptyIsNil(t *testing.T) {
	m := api.Num{most, most, most, most}
	for _, c := range []struct{ one, two [][]byte }{
		{nil, [][]byte{}},
		{nil, [][]byte{{1}}[:0]},
		{[][]byte{nil}, [][]byte{{}}},
		{[][]byte{{1}, nil, {2}}, [][]byte{{1}, roomy(nil), {2}}},
	} {
		if one, two := hashes.Of("x", c.one...), hashes.Of("x", c.two...); one != two {
			t.Errorf("%v, %v: %x, %x", c.one, c.two, one, two)
		}
		one, e := hashes.Number(m, "x", c.one...)
		two, f := hashes.Number(m, "x", c.two...)
		if one != two || e != f {
			t.Errorf("%v, %v: %x, %x", c.one, c.two, one, two)
		}
	}
}

// R4: what is answered is no part of a later answer.
func TestAnAnswerIsNew(t *testing.T) {
	h := hashes.Of("x", nil)
	n, _ := hashes.Number(api.Num{1, 2, 3, 4}, "x", nil)
	clear(h[:])
	clear(n[:])
	checkOf(t, what{"x", [][]byte{nil}})
	checkNumber(t, api.Num{1, 2, 3, 4}, what{"x", [][]byte{nil}})
}

// R5: the same again, whatever is asked in between, and whoever asks.
func TestTheSameAgain(t *testing.T) {
	l := whats()
	var first []api.Hash
	for _, w := range l {
		first = append(first, hashes.Of(w.as, w.parts...))
	}
	t.Run("all", func(t *testing.T) {
		for range 4 {
			t.Run("one", func(t *testing.T) {
				t.Parallel()
				for i, w := range slices.Backward(l) {
					checkNumber(t, numbers()[i%len(numbers())], w)
					if h := hashes.Of(w.as, w.parts...); h != first[i] {
						t.Errorf("%.20q, %d parts: %x, then %x", w.as, len(w.parts), first[i], h)
					}
				}
			})
		}
	})
}
