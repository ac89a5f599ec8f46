package hashes_test

import (
	"bytes"
	"encoding/binary"
	"math"
	"math/rand"
	"slices"
	"strings"

	"balefire/api"
)

const most = math.MaxUint64

// what: something that is hashed.
type what struct {
	as    string
	parts [][]byte
}

// bytes: what the document asks to be hashed, told without a call of the layers below.
func (w what) bytes() []byte {
	b := behind(nil, []byte(w.as))
	b = binary.BigEndian.AppendUint32(b, uint32(len(w.parts)))
	for _, part := range w.parts {
		b = behind(b, part)
	}
	return b
}

// more: with one part more, which stands behind all others.
func (w what) more(part []byte) what {
	return what{w.as, append(slices.Clone(w.parts), part)}
}

// behind: b, and behind it how many bytes l has, and these.
func behind(b, l []byte) []byte {
	return append(binary.BigEndian.AppendUint32(b, uint32(len(l))), l...)
}

// list: texts as parts.
func list(texts ...string) [][]byte {
	var l [][]byte
	for _, s := range texts {
		l = append(l, []byte(s))
	}
	return l
}

// random: bytes that a seed settles.
func random(seed int64, many int) []byte {
	b := make([]byte, many)
	rand.New(rand.NewSource(seed)).Read(b)
	return b
}

// sized: parts of so many bytes each.
func sized(sizes ...int) [][]byte {
	var l [][]byte
	for i, many := range sizes {
		l = append(l, random(int64(100*i+many), many))
	}
	return l
}

// every: all bytes there are.
func every() []byte {
	b := make([]byte, 256)
	for i := range b {
		b[i] = byte(i)
	}
	return b
}

// names: as what something may be hashed: as nothing, as what is no text, as what is longer than a block.
func names() []string {
	return []string{"", "x", "sign", "\x00", "\x00\x00\x00\x01", string(every()), "\xff\xfe", "ä€", strings.Repeat("long", 40)}
}

// manyParts: no part, one, many, empty and nil ones, of any bytes and lengths, some beyond a block, or several.
func manyParts() [][][]byte {
	l := [][][]byte{
		nil,
		{},
		{nil},
		{{}},
		{nil, {}, nil},
		{nil, {7}, {}, {8, 9}, nil},
		{{0}},
		{{1}},
		{{0}, {1}},
		{{0, 0, 0, 0}},
		{every()},
		{every(), every()},
		{bytes.Repeat([]byte{255}, 64), bytes.Repeat([]byte{0}, 64)},
		list("a", "bc"),
		sized(32, 32, 32),
		sized(1, 0, 63, 64, 65, 0, 128, 1000, 5),
		sized(api.MaxBytes),
		sized(make([]int, 300)...),
	}
	for _, many := range []int{1, 40, 46, 47, 48, 54, 55, 56, 57, 62, 63, 64, 65, 119, 120, 128, 255, 256, 257, 65535, 65537} {
		l = append(l, sized(many), sized(many, many))
	}
	return l
}

// whats: all of these, as each of those.
func whats() []what {
	var l []what
	for _, as := range names() {
		for _, parts := range manyParts() {
			l = append(l, what{as, parts})
		}
	}
	return l
}

// numbers: by which something may be left, none of them 0.
func numbers() []api.Num {
	return []api.Num{
		{1}, {2}, {3}, {7}, {11}, {255}, {256}, {1 << 32}, {1<<32 - 5}, {1 << 63}, {most - 58}, {most - 1}, {most},
		{0, 1}, {1, 1}, {0, 0, 1}, {most, most}, {0, 0, 0, 1}, {1, 2, 3, 4},
		{most, most, most, 1<<63 - 1}, {0, 0, 0, 1 << 63}, {1, 0, 0, 1 << 63},
		{most - 188, most, most, most}, {most - 1, most, most, most}, {most, most, most, most},
	}
}
