package nums_test

import (
	"bytes"
	"slices"
	"testing"

	"balefire/api"
	"balefire/nums"
)

// whole: a list with all of its spare room.
func whole(b []byte) []byte { return b[:cap(b)] }

// spoil: every byte of a list and of its spare room is another one.
func spoil(b []byte) {
	for i := range whole(b) {
		whole(b)[i] ^= 255
	}
}

// roomy: some bytes, of which the first many are the list, and the others its spare room.
func roomy(many, spare int) []byte {
	b := make([]byte, many+spare)
	for i := range b {
		b[i] = byte(170 + i)
	}
	return b[:many]
}

// puts: each call that answers b with something behind it.
func puts() map[string]func(b []byte) []byte {
	return map[string]func(b []byte) []byte{
		"Put none":       func(b []byte) []byte { return nums.Put(b, 258, 0) },
		"Put below none": func(b []byte) []byte { return nums.Put(b, 258, -1) },
		"Put 2":          func(b []byte) []byte { return nums.Put(b, 258, 2) },
		"Put 9":          func(b []byte) []byte { return nums.Put(b, 258, 9) },
		"PutLong":        func(b []byte) []byte { return nums.PutLong(b, api.Num{1, 2, 3, 4}) },
		"PutBytes none":  func(b []byte) []byte { return nums.PutBytes(b, nil) },
		"PutBytes":       func(b []byte) []byte { return nums.PutBytes(b, []byte{7, 8, 9}) },
	}
}

// R4, R5
func TestPutsLeaveWhatIsHandedIn(t *testing.T) {
	for name, put := range puts() {
		for _, many := range []int{0, 1, 5} {
			for _, spare := range []int{0, 1, 3, 64} {
				b := roomy(many, spare)
				was := slices.Clone(whole(b))
				one, two := put(b), put(b)
				if !bytes.Equal(whole(b), was) {
					t.Errorf("%s, %d and %d spare: changed: %v", name, many, spare, whole(b))
				}
				if !bytes.Equal(one, two) || !bytes.Equal(one[:many], b) {
					t.Errorf("%s, %d and %d spare: %v, then %v", name, many, spare, one, two)
				}
				if again := put(slices.Clip(slices.Clone(b))); !bytes.Equal(one, again) {
					t.Errorf("%s, %d and %d spare: %v, without room %v", name, many, spare, one, again)
				}
			}
		}
	}
}

// R4
func TestPutsAnswerNewMemory(t *testing.T) {
	for name, put := range puts() {
		for _, many := range []int{0, 1, 5} {
			for _, spare := range []int{0, 1, 3, 64} {
				b := roomy(many, spare)
				was := slices.Clone(whole(b))
				one, two := put(b), put(b)
				want := slices.Clone(two)
				spoil(one)
				if !bytes.Equal(whole(b), was) || !bytes.Equal(two, want) {
					t.Errorf("%s, %d and %d spare: the answer shares what was handed in, or another answer", name, many, spare)
				}
				spoil(b)
				if !bytes.Equal(two, want) {
					t.Errorf("%s, %d and %d spare: the answer hangs on what was handed in", name, many, spare)
				}
			}
		}
	}
}

// R4
func TestPutBytesLeavesItsSecondList(t *testing.T) {
	for _, many := range []int{0, 1, 5} {
		l := roomy(many, 9)
		was := slices.Clone(whole(l))
		out := nums.PutBytes([]byte{1}, l)
		if !bytes.Equal(out[5:], l) || !bytes.Equal(whole(l), was) {
			t.Errorf("%d: %v, %v", many, out, whole(l))
		}
		spoil(out)
		if !bytes.Equal(whole(l), was) {
			t.Errorf("%d: the answer shares what was handed in", many)
		}
	}
	for _, many := range []int{0, 1, 5} {
		empty := nums.PutBytes(nil, roomy(many, 9))
		if !bytes.Equal(empty[4:], roomy(many, 9)) {
			t.Errorf("%d behind nothing: %v", many, empty)
		}
	}
}

// R4: a list may lie in the other one's spare room, or be the other one.
func TestPutBytesOfListsThatOverlap(t *testing.T) {
	all := []byte{1, 2, 3, 4, 5, 6, 7, 8, 9, 10}
	was := slices.Clone(all)
	if out := nums.PutBytes(all[:2], all[2:6]); !bytes.Equal(out, []byte{1, 2, 0, 0, 0, 4, 3, 4, 5, 6}) || !bytes.Equal(all, was) {
		t.Errorf("%v, %v", out, all)
	}
	if out := nums.PutBytes(all[:3], all[:3]); !bytes.Equal(out, []byte{1, 2, 3, 0, 0, 0, 3, 1, 2, 3}) || !bytes.Equal(all, was) {
		t.Errorf("%v, %v", out, all)
	}
}

// R4, R5
func TestGetsLeaveWhatIsHandedIn(t *testing.T) {
	for _, b := range [][]byte{{}, {0, 0, 0, 2}, {0, 0, 0, 2, 7, 8, 9}, bytes.Repeat([]byte{5}, 40)} {
		b = append(make([]byte, 0, 64), b...)
		was := slices.Clone(whole(b))
		for range 2 {
			nums.Get(b, 3)
			nums.Get(b, 9)
			nums.GetLong(b)
			nums.GetBytes(b)
		}
		if !bytes.Equal(whole(b), was) {
			t.Errorf("changed: %v", whole(b))
		}
	}
}

// R4
func TestGetBytesAnswersNewMemory(t *testing.T) {
	for many := range 40 {
		b := append(nums.PutBytes(nil, roomy(many, 0)), 1, 2, 3)
		was := slices.Clone(whole(b))
		one, _, _ := nums.GetBytes(b)
		two, _, _ := nums.GetBytes(b)
		spoil(one)
		if !bytes.Equal(whole(b), was) || !bytes.Equal(two, roomy(many, 0)) {
			t.Errorf("%d: the answer shares what was handed in, or another answer", many)
		}
		spoil(b)
		if !bytes.Equal(two, roomy(many, 0)) {
			t.Errorf("%d: the answer hangs on what was handed in", many)
		}
	}
}

// R4: empty and nil mean the same.
func TestEmptyIsNil(t *testing.T) {
	for name, put := range puts() {
		if one, two := put(nil), put([]byte{}); !bytes.Equal(one, two) {
			t.Errorf("%s: %v, %v", name, one, two)
		}
	}
	_, _, e := nums.GetBytes(nil)
	_, _, f := nums.GetBytes([]byte{})
	if e != f {
		t.Errorf("GetBytes: %d, %d", e, f)
	}
}
