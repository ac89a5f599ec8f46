package shas

import (
	"math/bits"

	"balefire/api"
	"balefire/nums"
)

// cubes: of the first 64 prime numbers the first 32 bits behind the point of their cube roots. (FIPS 180-4, 4.2.2)
var cubes = [64]uint32{
	0x428a2f98, 0x71374491, 0xb5c0fbcf, 0xe9b5dba5, 0x3956c25b, 0x59f111f1, 0x923f82a4, 0xab1c5ed5,
	0xd807aa98, 0x12835b01, 0x243185be, 0x550c7dc3, 0x72be5d74, 0x80deb1fe, 0x9bdc06a7, 0xc19bf174,
	0xe49b69c1, 0xefbe4786, 0x0fc19dc6, 0x240ca1cc, 0x2de92c6f, 0x4a7484aa, 0x5cb0a9dc, 0x76f988da,
	0x983e5152, 0xa831c66d, 0xb00327c8, 0xbf597fc7, 0xc6e00bf3, 0xd5a79147, 0x06ca6351, 0x14292967,
	0x27b70a85, 0x2e1b2138, 0x4d2c6dfc, 0x53380d13, 0x650a7354, 0x766a0abb, 0x81c2c92e, 0x92722c85,
	0xa2bfe8a1, 0xa81a664b, 0xc24b8b70, 0xc76c51a3, 0xd192e819, 0xd6990624, 0xf40e3585, 0x106aa070,
	0x19a4c116, 0x1e376c08, 0x2748774c, 0x34b0bcb5, 0x391c0cb3, 0x4ed8aa4a, 0x5b9cca4f, 0x682e6ff3,
	0x748f82ee, 0x78a5636f, 0x84c87814, 0x8cc70208, 0x90befffa, 0xa4506ceb, 0xbef9a3f7, 0xc67178f2,
}

// squares: of the first 8 those of their square roots. (5.3.3)
var squares = eight{
	0x6a09e667, 0xbb67ae85, 0x3c6ef372, 0xa54ff53a, 0x510e527f, 0x9b05688c, 0x1f83d9ab, 0x5be0cd19,
}

// eight: the numbers that blocks are taken in by.
type eight [8]uint32

// takenIn: these, once a block is taken in by them.
func (n eight) takenIn(block [blockBytes]byte) eight {
	a, b, c, d, e, f, g, h := n[0], n[1], n[2], n[3], n[4], n[5], n[6], n[7]
	for i, w := range spread(block) {
		t := h + turned(e, 6, 11, 25) + (e&f | ^e&g) + cubes[i] + w
		u := turned(a, 2, 13, 22) + (a&b | a&c | b&c)
		h, g, f, e, d, c, b, a = g, f, e, d+t, c, b, a, t+u
	}
	for i, x := range (eight{a, b, c, d, e, f, g, h}) {
		n[i] += x
	}
	return n
}

// told: four bytes each.
func (n eight) told() api.Hash {
	var b []byte
	for _, x := range n {
		b = nums.Put(b, uint64(x), 4)
	}
	return api.Hash(b)
}

// spread: a block's 16 numbers, and 48 more of them.
func spread(block [blockBytes]byte) [64]uint32 {
	var w [64]uint32
	for i := range 16 {
		// No number is short: a block has all of its bytes.
		n, _ := nums.Get(block[4*i:], 4)
		w[i] = uint32(n)
	}
	for i := 16; i < len(w); i++ {
		x, y := w[i-15], w[i-2]
		w[i] = w[i-16] + w[i-7] + (turned(x, 7, 18) ^ x>>3) + (turned(y, 17, 19) ^ y>>10)
	}
	return w
}

// turned: x, turned down by each of so many places, taken against each other.
func turned(x uint32, places ...int) uint32 {
	var all uint32
	for _, n := range places {
		all ^= bits.RotateLeft32(x, -n)
	}
	return all
}
