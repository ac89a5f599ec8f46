package sigs_test

import (
	"math/rand"
	"testing"

	"balefire/api"
	"balefire/sigs"
)

// anyNum: one that may be, for the most part.
func anyNum(r *rand.Rand, limit api.Num) api.Num {
	l := []api.Num{of(1), of(2), of(3), of(4), more(limit, -1), more(limit, -2), of(0), limit, highest()}
	return l[min(r.Intn(2*len(l)), r.Intn(len(l)))]
}

// question: all that is handed in.
type question struct {
	g                 api.Group
	secret, draw, key api.Num
	h                 api.Hash
	s                 api.Signature
}

// anyQuestion: often its signature is one that passes.
func anyQuestion(r *rand.Rand, p, q api.Num) question {
	g := api.Group{P: p, Q: q, G: anyNum(r, p), H: anyNum(r, p)}
	l := question{g, anyNum(r, q), anyNum(r, q), anyNum(r, p), anyHash(r), api.Signature{C: anyNum(r, q), S: anyNum(r, q)}}
	if r.Intn(2) == 0 {
		l.key = power(g.G, l.secret, p)
		l.s, _ = sign(g, l.secret, l.h, l.draw)
	}
	return l
}

// answered: what both calls tell.
type answered struct {
	s    api.Signature
	e    api.Errno
	pass bool
}

func (q question) ask() answered {
	s, e := sigs.Sign(q.g, q.secret, q.h, q.draw)
	return answered{s, e, sigs.Check(q.g, q.key, q.h, q.s)}
}

// eachQuestion: by all numbers, in groups that may be and that may not.
func eachQuestion(seed int64, times int, try func(q question)) {
	r := rand.New(rand.NewSource(seed))
	moduli := append(append(modules(), nothingGoesRound()...), of(7), of(11))
	for _, q := range append(orders(), nothingGoesRound()...) {
		for range times {
			try(anyQuestion(r, moduli[r.Intn(len(moduli))], q))
		}
	}
	for _, g := range groupsThatMayBe() {
		for range times {
			try(anyQuestion(r, g.P, g.Q))
		}
	}
}

// R1, R2, R4, R5: whatever is handed in, both calls end, leave it as it was, answer the same again, also when others were asked between, and nothing beside an error.
func TestAgain(t *testing.T) {
	signed, refused, passed, not := 0, 0, 0, 0
	var before question
	eachQuestion(1, 40, func(q question) {
		was := q
		one := q.ask()
		before.ask()
		two := q.ask()
		if one != two {
			t.Errorf("%v: %v, then %v", q, one, two)
		}
		if q != was {
			t.Errorf("%v became %v", was, q)
		}
		switch {
		case one.e == api.OK:
			signed++
		case one.e != api.ErrArg || one.s != (api.Signature{}):
			t.Errorf("%v: %v", q, one)
		default:
			refused++
		}
		checkSign(t, q.g, q.secret, q.h, q.draw)
		if checkCheck(t, q.g, q.key, q.h, q.s) {
			passed++
		} else {
			not++
		}
		before = q
	})
	if signed < 100 || refused < 100 || passed < 50 || not < 100 {
		t.Errorf("%d signed, %d refused; %d passed, %d did not", signed, refused, passed, not)
	}
}

// R5: the same draw signs the same, whatever was signed or checked before.
func TestSameDrawSignsTheSame(t *testing.T) {
	r := rand.New(rand.NewSource(2))
	for _, g := range groupsThatMayBe() {
		secret, h, draw := exponent(r, g.Q), anyHash(r), exponent(r, g.Q)
		key, s := made(t, g, secret, h, draw)
		for range 5 {
			other, signed := made(t, g, exponent(r, g.Q), anyHash(r), exponent(r, g.Q))
			sigs.Check(g, other, h, signed)
			isSign(t, g, secret, h, draw, s, api.OK)
			isCheck(t, g, key, h, s, true)
		}
	}
}

// R5: so it is where many ask at the same time.
func TestAtTheSameTime(t *testing.T) {
	type signed struct {
		g      api.Group
		secret api.Num
		h      api.Hash
		draw   api.Num
		key    api.Num
		s      api.Signature
	}
	r := rand.New(rand.NewSource(3))
	var l []signed
	for _, g := range groupsThatMayBe() {
		one := signed{g: g, secret: exponent(r, g.Q), h: anyHash(r), draw: exponent(r, g.Q)}
		one.key, one.s = made(t, g, one.secret, one.h, one.draw)
		l = append(l, one)
	}
	done := make(chan struct{})
	for range 8 {
		go func() {
			defer func() { done <- struct{}{} }()
			for _, one := range l {
				isSign(t, one.g, one.secret, one.h, one.draw, one.s, api.OK)
				isCheck(t, one.g, one.key, one.h, one.s, true)
			}
		}()
	}
	for range 8 {
		<-done
	}
}

// R4: an answer is memory of its own: what is written to it changes no other one, nor what is handed in again.
func TestAnswersAreTheirOwn(t *testing.T) {
	r := rand.New(rand.NewSource(4))
	for _, g := range groupsThatMayBe() {
		secret, h, draw := exponent(r, g.Q), anyHash(r), exponent(r, g.Q)
		key, one := made(t, g, secret, h, draw)
		kept := one
		_, two := made(t, g, secret, h, draw)
		two.C, two.S = highest(), highest()
		was := h
		isCheck(t, g, key, h, one, true)
		if one != kept || h != was {
			t.Errorf("%x, %x became %x, %x", kept, was, one, h)
		}
		h = api.Hash{}
		isSign(t, g, secret, was, draw, kept, api.OK)
		isCheck(t, g, key, was, kept, true)
	}
}
