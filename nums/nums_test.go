package nums_test

import (
	"bytes"
	"math"
	"math/big"
	"slices"
	"testing"

	"balefire/api"
	"balefire/nums"
)

// words: numbers at which a byte, or the sign of an int, would be mistaken.
func words() []uint64 {
	l := []uint64{0, 1, 2, 127, 128, 258, 0x0102030405060708, 0xfedcba9876543210, math.MaxInt64, math.MaxUint64}
	for shift := range 64 {
		l = append(l, 1<<shift, 1<<shift-1)
	}
	return l
}

// longs: each word of theirs alone, all together, and neighbours across a word's end.
func longs() []api.Num {
	const most = math.MaxUint64
	l := []api.Num{{}, {5}, {1, 2, 3, 4}, {4, 3, 2, 1}, {most, most, most, most}, {5, 0, 7, 1 << 63}, {0x0102030405060708, 0x1112131415161718, 0x2122232425262728, 0x3132333435363738}}
	for i := range api.Words {
		for _, w := range []uint64{1, 255, 256, 1 << 63, most} {
			var n api.Num
			n[i] = w
			l = append(l, n)
		}
		var below api.Num
		for j := range i {
			below[j] = most
		}
		l = append(l, below)
	}
	return l
}

func bigOf(n api.Num) *big.Int {
	out := new(big.Int)
	for i := api.Words - 1; i >= 0; i-- {
		out.Lsh(out, 64).Or(out, new(big.Int).SetUint64(n[i]))
	}
	return out
}

// behinds: what may stand behind bytes that are got.
func behinds() [][]byte {
	return [][]byte{nil, {0}, {255}, {0, 0, 0, 9}, bytes.Repeat([]byte{255}, 40)}
}

// P1.1
func TestPut(t *testing.T) {
	for _, c := range []struct {
		b     []byte
		n     uint64
		bytes int
		want  []byte
	}{
		{[]byte{9}, 258, 2, []byte{9, 1, 2}},
		{nil, 258, 1, []byte{2}},
		{nil, 258, 3, []byte{0, 1, 2}},
		{[]byte{9}, 258, 0, []byte{9}},
		{nil, 258, 0, nil},
		{[]byte{9}, 258, -1, []byte{9}},
		{[]byte{9, 8}, math.MaxUint64, math.MinInt, []byte{9, 8}},
		{nil, 0x0102030405060708, 7, []byte{2, 3, 4, 5, 6, 7, 8}},
		{nil, 0x0102030405060708, 8, []byte{1, 2, 3, 4, 5, 6, 7, 8}},
		{[]byte{9}, 0x0102030405060708, 9, []byte{9, 1, 2, 3, 4, 5, 6, 7, 8}},
		{nil, 1, math.MaxInt, []byte{0, 0, 0, 0, 0, 0, 0, 1}},
		{nil, math.MaxUint64, 8, bytes.Repeat([]byte{255}, 8)},
		{[]byte{}, 0, 4, []byte{0, 0, 0, 0}},
	} {
		if got := nums.Put(c.b, c.n, c.bytes); !bytes.Equal(got, c.want) {
			t.Errorf("Put(%v, %d, %d): %v, not %v", c.b, c.n, c.bytes, got, c.want)
		}
	}
}

// P1.1, R2
func TestGet(t *testing.T) {
	for _, c := range []struct {
		b     []byte
		bytes int
		n     uint64
		e     api.Errno
	}{
		{[]byte{1, 2, 7}, 2, 258, api.OK},
		{[]byte{1}, 2, 0, api.ErrShort},
		{[]byte{1}, 9, 0, api.ErrArg},
		{nil, 0, 0, api.OK},
		{[]byte{7}, 0, 0, api.OK},
		{nil, 1, 0, api.ErrShort},
		{nil, 9, 0, api.ErrArg}, // short too: the one that is named first
		{nil, -1, 0, api.ErrArg},
		{bytes.Repeat([]byte{1}, 20), -1, 0, api.ErrArg},
		{bytes.Repeat([]byte{1}, 20), 9, 0, api.ErrArg},
		{bytes.Repeat([]byte{1}, 20), math.MinInt, 0, api.ErrArg},
		{bytes.Repeat([]byte{1}, 20), math.MaxInt, 0, api.ErrArg},
		{[]byte{1, 2, 3, 4, 5, 6, 7}, 8, 0, api.ErrShort},
		{[]byte{1, 2, 3, 4, 5, 6, 7, 8}, 8, 0x0102030405060708, api.OK},
		{[]byte{1, 2, 3, 4, 5, 6, 7, 8, 9}, 8, 0x0102030405060708, api.OK},
		{bytes.Repeat([]byte{255}, 8), 8, math.MaxUint64, api.OK},
	} {
		if n, e := nums.Get(c.b, c.bytes); n != c.n || e != c.e {
			t.Errorf("Get(%v, %d): %d, %d, not %d, %d", c.b, c.bytes, n, e, c.n, c.e)
		}
	}
	for had := range 10 {
		for wanted := range 9 {
			_, e := nums.Get(make([]byte, had), wanted)
			if want := had < wanted; (e == api.ErrShort) != want || (e == api.OK) == want {
				t.Errorf("Get(%d bytes, %d): %d", had, wanted, e)
			}
		}
	}
}

// P1.2
func TestPutLong(t *testing.T) {
	if b := nums.PutLong(nil, api.Num{5}); len(b) != 32 || b[31] != 5 {
		t.Errorf("of 5: %v", b)
	}
	for _, n := range longs() {
		for _, b := range [][]byte{nil, {}, {9}, {9, 8, 7}} {
			want := bigOf(n).FillBytes(make([]byte, 32))
			want = append(slices.Clone(b), want...)
			if got := nums.PutLong(b, n); !bytes.Equal(got, want) {
				t.Errorf("PutLong(%v, %v): %v, not %v", b, n, got, want)
			}
		}
	}
}

// P1.2, R2
func TestGetLong(t *testing.T) {
	b := make([]byte, 40)
	for i := range b {
		b[i] = byte(i + 1)
	}
	want := api.Num{0x191a1b1c1d1e1f20, 0x1112131415161718, 0x090a0b0c0d0e0f10, 0x0102030405060708}
	for many := range len(b) + 1 {
		n, e := nums.GetLong(b[:many])
		if many < 32 && (n != api.Num{} || e != api.ErrShort) {
			t.Errorf("GetLong(%d bytes): %v, %d", many, n, e)
		}
		if many >= 32 && (n != want || e != api.OK) {
			t.Errorf("GetLong(%d bytes): %x, %d", many, n, e)
		}
	}
}

// P1.3
func TestPutBytes(t *testing.T) {
	for _, c := range []struct{ b, l, want []byte }{
		{[]byte{1}, []byte{7, 7}, []byte{1, 0, 0, 0, 2, 7, 7}},
		{nil, nil, []byte{0, 0, 0, 0}},
		{nil, []byte{}, []byte{0, 0, 0, 0}},
		{[]byte{1, 2}, nil, []byte{1, 2, 0, 0, 0, 0}},
		{nil, []byte{0}, []byte{0, 0, 0, 1, 0}},
	} {
		if got := nums.PutBytes(c.b, c.l); !bytes.Equal(got, c.want) {
			t.Errorf("PutBytes(%v, %v): %v, not %v", c.b, c.l, got, c.want)
		}
	}
	for _, many := range []int{255, 256, 65535, 65536, 1<<24 - 1, 1<<24 + 0x20304} {
		got := nums.PutBytes([]byte{9}, bytes.Repeat([]byte{6}, many))
		head := []byte{9, byte(many >> 24), byte(many >> 16), byte(many >> 8), byte(many)}
		if len(got) != 5+many || !bytes.Equal(got[:5], head) || bytes.Count(got[5:], []byte{6}) != many {
			t.Errorf("PutBytes of %d: %d, %v", many, len(got), got[:5])
		}
	}
}

// P1.3, R2
func TestGetBytes(t *testing.T) {
	for _, c := range []struct {
		b, l []byte
		took int
		e    api.Errno
	}{
		{[]byte{0, 0, 0, 2, 7, 8, 9}, []byte{7, 8}, 6, api.OK},
		{[]byte{0, 0, 0, 2, 7, 8}, []byte{7, 8}, 6, api.OK},
		{[]byte{0, 0, 0, 2, 7}, nil, 0, api.ErrShort},
		{[]byte{0, 0, 0, 2}, nil, 0, api.ErrShort},
		{[]byte{0, 0, 0, 0}, nil, 4, api.OK},
		{[]byte{0, 0, 0, 0, 5}, nil, 4, api.OK},
		{nil, nil, 0, api.ErrShort},
		{[]byte{0}, nil, 0, api.ErrShort},
		{[]byte{0, 0}, nil, 0, api.ErrShort},
		{[]byte{0, 0, 0}, nil, 0, api.ErrShort},
		{[]byte{0, 0, 1, 0, 7}, nil, 0, api.ErrShort},
		{[]byte{0, 1, 0, 0, 7}, nil, 0, api.ErrShort},
		{[]byte{1, 0, 0, 0, 7}, nil, 0, api.ErrShort},
		{[]byte{127, 255, 255, 255, 7}, nil, 0, api.ErrShort},
		{[]byte{128, 0, 0, 0, 7}, nil, 0, api.ErrShort},
		{[]byte{255, 255, 255, 255, 7}, nil, 0, api.ErrShort},
	} {
		if l, took, e := nums.GetBytes(c.b); !bytes.Equal(l, c.l) || took != c.took || e != c.e {
			t.Errorf("GetBytes(%v): %v, %d, %d, not %v, %d, %d", c.b, l, took, e, c.l, c.took, c.e)
		}
	}
}

// The four bytes and the rest are asked by the length: what lies in the spare room does not count.
func TestSpareRoomIsNotRead(t *testing.T) {
	all := append([]byte{0, 0, 0, 2}, bytes.Repeat([]byte{7}, 60)...)
	if n, e := nums.Get(all[:1], 2); n != 0 || e != api.ErrShort {
		t.Errorf("Get: %d, %d", n, e)
	}
	if n, e := nums.GetLong(all[:31]); n != (api.Num{}) || e != api.ErrShort {
		t.Errorf("GetLong: %v, %d", n, e)
	}
	for many := range 6 {
		if l, took, e := nums.GetBytes(all[:many]); len(l) != 0 || took != 0 || e != api.ErrShort {
			t.Errorf("GetBytes(%d bytes): %v, %d, %d", many, l, took, e)
		}
	}
}

// P1.4
func TestPutIsGot(t *testing.T) {
	ahead := []byte{3, 1}
	for _, behind := range behinds() {
		for _, n := range words() {
			for width := range 9 {
				want := n
				if width < 8 {
					want = n & (1<<(8*width) - 1)
				}
				b := append(nums.Put(ahead, n, width), behind...)
				if got, e := nums.Get(b[2:], width); got != want || e != api.OK {
					t.Errorf("%x in %d, behind it %v: %x, %d", n, width, behind, got, e)
				}
			}
		}
		for _, n := range longs() {
			b := append(nums.PutLong(ahead, n), behind...)
			if got, e := nums.GetLong(b[2:]); got != n || e != api.OK {
				t.Errorf("%x, behind it %v: %x, %d", n, behind, got, e)
			}
		}
		for many := range 70 {
			l := bytes.Repeat([]byte{byte(many)}, many)
			b := append(nums.PutBytes(ahead, l), behind...)
			if got, took, e := nums.GetBytes(b[2:]); !bytes.Equal(got, l) || took != 4+many || e != api.OK {
				t.Errorf("%v, behind it %v: %v, %d, %d", l, behind, got, took, e)
			}
		}
	}
}

// P1.4
func TestSeveralPutAreGot(t *testing.T) {
	long := api.Num{1, 2, 3, 4}
	b := nums.PutBytes(nums.PutLong(nums.Put(nums.PutBytes(nil, []byte("ab")), 77, 3), long), []byte("c"))
	l, took, e := nums.GetBytes(b)
	if string(l) != "ab" || took != 6 || e != api.OK {
		t.Fatal(l, took, e)
	}
	b = b[took:]
	if n, e := nums.Get(b, 3); n != 77 || e != api.OK {
		t.Fatal(n, e)
	}
	b = b[3:]
	if n, e := nums.GetLong(b); n != long || e != api.OK {
		t.Fatal(n, e)
	}
	b = b[32:]
	if l, took, e := nums.GetBytes(b); string(l) != "c" || took != len(b) || e != api.OK {
		t.Fatal(l, took, e)
	}
}

// P1.4
func TestBytesStandInTheOrderOfNumbers(t *testing.T) {
	for width := 1; width <= 8; width++ {
		for _, a := range words() {
			for _, b := range words() {
				if width < 8 && (a>>(8*width) != 0 || b>>(8*width) != 0) {
					continue
				}
				want := new(big.Int).SetUint64(a).Cmp(new(big.Int).SetUint64(b))
				if got := bytes.Compare(nums.Put(nil, a, width), nums.Put(nil, b, width)); got != want {
					t.Errorf("%x and %x in %d: %d", a, b, width, got)
				}
			}
		}
	}
	for _, a := range longs() {
		for _, b := range longs() {
			if got := bytes.Compare(nums.PutLong(nil, a), nums.PutLong(nil, b)); got != bigOf(a).Cmp(bigOf(b)) {
				t.Errorf("%x and %x: %d", a, b, got)
			}
		}
	}
}
