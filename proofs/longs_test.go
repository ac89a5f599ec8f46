package proofs_test

import (
	"math"
	"math/big"
	"math/rand"
	"strings"

	"balefire/api"
)

const most = math.MaxUint64

func of(n uint64) api.Num { return api.Num{n} }

func highest() api.Num { return api.Num{most, most, most, most} }

// list: small numbers.
func list(l ...uint64) []api.Num {
	var out []api.Num
	for _, n := range l {
		out = append(out, of(n))
	}
	return out
}

// near: 2 to the power of i, and so much more (or, below 0, less).
func near(i uint, by int64) api.Num {
	n := new(big.Int).Lsh(big.NewInt(1), i)
	return numOf(n.Add(n, big.NewInt(by)))
}

// digits: a number as it is written.
func digits(text string) api.Num {
	n, ok := new(big.Int).SetString(text, 10)
	if !ok {
		panic(text)
	}
	return numOf(n)
}

func bigOf(n api.Num) *big.Int {
	out := new(big.Int)
	for i := api.Words - 1; i >= 0; i-- {
		out.Lsh(out, 64).Or(out, new(big.Int).SetUint64(n[i]))
	}
	return out
}

// numOf: the lowest 256 bits.
func numOf(b *big.Int) api.Num {
	word := new(big.Int).SetUint64(most)
	var n api.Num
	for i := range n {
		part := new(big.Int).Rsh(b, uint(64*i))
		n[i] = part.And(part, word).Uint64()
	}
	return n
}

// more: so much more than n (or, below 0, less), round 2^256.
func more(n api.Num, by int64) api.Num {
	return numOf(new(big.Int).Add(bigOf(n), big.NewInt(by)))
}

// plus: the sum, round 2^256.
func plus(a, b api.Num) api.Num { return numOf(new(big.Int).Add(bigOf(a), bigOf(b))) }

// below: is a number below another one?
func below(a, b api.Num) bool { return bigOf(a).Cmp(bigOf(b)) < 0 }

// power: 0, where nothing goes round by p.
func power(a, n, p api.Num) api.Num {
	if !below(of(1), p) {
		return of(0)
	}
	return numOf(new(big.Int).Exp(bigOf(a), bigOf(n), bigOf(p)))
}

// tooGreat: n, what stands behind it, and the highest number.
func tooGreat(n api.Num) []api.Num {
	l := []api.Num{n, highest()}
	if n != highest() {
		l = append(l, more(n, 1))
	}
	return l
}

// one: a number below q.
func one(r *rand.Rand, q api.Num) api.Num { return numOf(new(big.Int).Rand(r, bigOf(q))) }

// exponent: a number below q that is not 0; q is above 1.
func exponent(r *rand.Rand, q api.Num) api.Num { return more(one(r, more(q, -1)), 1) }

// someTexts: none, those that layers above use, bytes that are no letters, one that is long, and two of which one begins the other.
func someTexts() []string {
	return []string{"", "x", "share", "open", "shared", "\x00", "\x00\x00\x00\x00", "\xff\xc3\x28", "\u00e4", strings.Repeat("long ", 300)}
}

// anyText: one of them.
func anyText(r *rand.Rand) string {
	l := someTexts()
	return l[r.Intn(len(l))]
}

// orders: all by which exponents go round, prime or not, at the words' ends.
func orders() []api.Num {
	l := list(2, 3, 4, 5, 6, 7, 9, 11, 12, 77, 257, 30030, 4294967291, most)
	return append(l, near(32, 0), near(61, -1), near(64, 13), near(127, -1), near(128, 0), near(255, -19), near(255, 0), more(highest(), -1), highest(), api.Num{1, 2, 3, 4})
}

// modules: numbers by which products go round, prime or not.
func modules() []api.Num {
	return append(list(2, 3, 4, 8, 12, 15, 23, 30030, 4294967291, most), near(64, 0), near(127, -1), near(255, -19), near(255, 0), highest())
}

// nothingGoesRound: by these.
func nothingGoesRound() []api.Num { return list(0, 1) }

// example: the chapter's group.
func example() api.Group { return api.Group{P: of(23), Q: of(11), G: of(4), H: of(9)} }

// safe: the group of an order q, by the prime that is one more than twice of it, whose numbers are squares.
func safe(q api.Num) api.Group {
	p := new(big.Int).Lsh(bigOf(q), 1)
	return api.Group{P: numOf(p.Add(p, big.NewInt(1))), Q: q, G: of(4), H: of(9)}
}

// ofOrder: the group of an order q by a prime p of which q divides what is one less.
func ofOrder(p, q api.Num) api.Group {
	times := numOf(new(big.Int).Div(bigOf(more(p, -1)), bigOf(q)))
	return api.Group{P: p, Q: q, G: power(of(3), times, p), H: power(of(5), times, p)}
}

// of255: the group of a chain of primes, of 255 and of 256 bits.
func of255() api.Group {
	return safe(digits("28948138803258597613807299008635906668729595744687125648048476241964329583871"))
}

// groupsThatMayBe: short and long ones; with orders much shorter than P.
func groupsThatMayBe() []api.Group {
	return []api.Group{
		example(), safe(of(23)), safe(of(1013)), safe(of(2147483543)),
		safe(digits("57896044618658097711785492504343953926634992332820282019728792003956564801911")), of255(),
		ofOrder(of(4294967291), of(19)),
	}
}

// shortOrders: groups of which so few exponents may be that one of a kind is found soon.
func shortOrders() []api.Group {
	return []api.Group{example(), safe(of(23)), ofOrder(of(463), of(7)), ofOrder(of(4294967291), of(19)), ofOrder(near(127, -1), of(19))}
}

// isPrime: of small ones.
func isPrime(n uint64) bool { return new(big.Int).SetUint64(n).ProbablyPrime(20) }

// numbersOf: all numbers of the group of order q by p, which are small; 1, too.
func numbersOf(p, q uint64) []api.Num {
	var l []api.Num
	for n := uint64(1); n < p; n++ {
		if power(of(n), of(q), of(p)) == of(1) {
			l = append(l, of(n))
		}
	}
	return l
}

// smallGroups: all groups that may be by primes below so many, one for each P and Q.
func smallGroups(below uint64) []api.Group {
	var l []api.Group
	for p := uint64(3); p < below; p++ {
		for q := uint64(2); q < p; q++ {
			if isPrime(p) && isPrime(q) && (p-1)%q == 0 {
				numbers := numbersOf(p, q)
				l = append(l, api.Group{P: of(p), Q: of(q), G: numbers[1], H: numbers[len(numbers)-1]})
			}
		}
	}
	return l
}
