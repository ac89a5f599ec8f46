// Package nums is layer 1: numbers as bytes. See doc/01-nums.md.
package nums

import "balefire/api"

const (
	wordBytes  = 8                     // of a number that is not long
	longBytes  = api.Words * wordBytes // of a long number
	countBytes = 4                     // of how many bytes a list has
)

// Put: a number, the highest byte first, in so many bytes; Get: back. (P1.1)
func Put(b []byte, n uint64, bytes int) []byte {
	return putWords(b, min(max(bytes, 0), wordBytes), n)
}

// Get: likewise.
func Get(b []byte, bytes int) (uint64, api.Errno) {
	if bytes < 0 || bytes > wordBytes {
		return 0, api.ErrArg
	}
	if len(b) < bytes {
		return 0, api.ErrShort
	}
	var n uint64
	for _, x := range b[:bytes] {
		n = n<<8 | uint64(x)
	}
	return n, api.OK
}

// PutLong: a long number in 32 bytes, the highest first; GetLong: back. (P1.2)
func PutLong(b []byte, n api.Num) []byte {
	return putWords(b, wordBytes, n[3], n[2], n[1], n[0])
}

// GetLong: likewise.
func GetLong(b []byte) (api.Num, api.Errno) {
	if len(b) < longBytes {
		return api.Num{}, api.ErrShort
	}
	var n api.Num
	for i := range api.Words {
		// No word is short: the length is checked above.
		n[api.Words-1-i], _ = Get(b[i*wordBytes:], wordBytes)
	}
	return n, api.OK
}

// PutBytes: how many (four bytes), and these; GetBytes: back; how many it took. (P1.3)
func PutBytes(b, l []byte) []byte {
	return append(Put(b, uint64(len(l)), countBytes), l...)
}

// GetBytes: likewise.
func GetBytes(b []byte) (l []byte, took int, e api.Errno) {
	many, e := Get(b, countBytes)
	if e != api.OK {
		return nil, 0, e
	}
	rest := b[countBytes:]
	// Compared unsigned: the four bytes may tell more than an int holds.
	if uint64(len(rest)) < many {
		return nil, 0, api.ErrShort
	}
	l = append([]byte(nil), rest[:many]...)
	return l, countBytes + len(l), api.OK
}

// putWords: b, and behind it the lowest so many bytes (0 to 8) of each word, the highest of these first.
func putWords(b []byte, bytes int, words ...uint64) []byte {
	// A copy even if nothing follows: appending to b itself could write into the caller's spare room.
	out := append(make([]byte, 0, len(b)+bytes*len(words)), b...)
	for _, w := range words {
		for i := range bytes {
			out = append(out, byte(w>>(8*(bytes-1-i))))
		}
	}
	return out
}
