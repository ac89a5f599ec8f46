package proofs_test

import (
	"math/rand"
	"testing"

	"balefire/api"
)

// anyNum: one that may be, for the most part.
func anyNum(r *rand.Rand, limit api.Num) api.Num {
	l := []api.Num{of(1), of(2), of(3), of(4), more(limit, -1), more(limit, -2), of(0), limit, highest()}
	return l[min(r.Intn(2*len(l)), r.Intn(len(l)))]
}

// question: all that is handed in.
type question struct {
	k task
	c claim
}

// anyQuestion: often its bases are the group's, and its claim is what was proved.
func anyQuestion(r *rand.Rand, g api.Group) question {
	p, q := g.P, g.Q
	k := task{g, anyText(r), anyNum(r, q), anyNum(r, p), anyNum(r, p), anyNum(r, q)}
	if r.Intn(2) == 0 {
		k.base, k.y = g.G, g.H
	}
	c := claim{g, anyText(r), anyNum(r, p), anyNum(r, p), anyNum(r, p), anyNum(r, p), api.Proof{C: anyNum(r, q), S: anyNum(r, q)}}
	if r.Intn(2) == 0 {
		made, _ := k.told()
		c = claim{g, k.as, k.base, power(k.base, k.x, p), k.y, power(k.y, k.x, p), made}
	}
	return question{k, c}
}

// answered: what both calls tell.
type answered struct {
	p    api.Proof
	e    api.Errno
	pass bool
}

func (q question) ask() answered {
	p, e := q.k.prove()
	return answered{p, e, q.c.check()}
}

// eachQuestion: by all numbers, in groups that may be and that may not.
func eachQuestion(seed int64, times int, try func(q question)) {
	r := rand.New(rand.NewSource(seed))
	moduli := append(append(modules(), nothingGoesRound()...), of(7), of(11))
	for _, q := range append(orders(), nothingGoesRound()...) {
		for range times {
			p := moduli[r.Intn(len(moduli))]
			try(anyQuestion(r, api.Group{P: p, Q: q, G: anyNum(r, p), H: anyNum(r, p)}))
		}
	}
	for _, g := range groupsThatMayBe() {
		for range times {
			try(anyQuestion(r, g))
		}
	}
}

// R1, R2, R4, R5: whatever is handed in, both calls end, leave it as it was, answer the same again, also when others were asked between, and nothing beside an error.
func TestAgain(t *testing.T) {
	proved, refused, passed, not := 0, 0, 0, 0
	var before question
	eachQuestion(1, 40, func(q question) {
		was := q
		one := q.ask()
		before.ask()
		two := q.ask()
		if one != two {
			t.Errorf("%x: %v, then %v", q, one, two)
		}
		if q != was {
			t.Errorf("%x became %x", was, q)
		}
		switch {
		case one.e == api.OK:
			proved++
		case one.e != api.ErrArg || one.p != (api.Proof{}):
			t.Errorf("%x: %v", q, one)
		default:
			refused++
		}
		checkProve(t, q.k)
		if checkCheck(t, q.c) {
			passed++
		} else {
			not++
		}
		before = q
	})
	if proved < 100 || refused < 100 || passed < 50 || not < 100 {
		t.Errorf("%d proved, %d refused; %d passed, %d did not", proved, refused, passed, not)
	}
}

// R5: the same draw proves the same, whatever was proved or checked before.
func TestSameDrawProvesTheSame(t *testing.T) {
	r := rand.New(rand.NewSource(2))
	for _, g := range groupsThatMayBe() {
		k := anyTask(r, g)
		c := made(t, k)
		for range 5 {
			other := made(t, anyTask(r, g))
			other.check()
			isProve(t, k, c.p, api.OK)
			isCheck(t, c, true)
		}
	}
}

// R5: so it is where many ask at the same time.
func TestAtTheSameTime(t *testing.T) {
	r := rand.New(rand.NewSource(3))
	var tasks []task
	var claims []claim
	for _, g := range groupsThatMayBe() {
		tasks = append(tasks, anyTask(r, g))
		claims = append(claims, made(t, tasks[len(tasks)-1]))
	}
	done := make(chan struct{})
	for range 8 {
		go func() {
			defer func() { done <- struct{}{} }()
			for i, k := range tasks {
				isProve(t, k, claims[i].p, api.OK)
				isCheck(t, claims[i], true)
			}
		}()
	}
	for range 8 {
		<-done
	}
}

// R4: an answer is memory of its own: what is written to it changes no other one, nor what is handed in again.
func TestAnswersAreTheirOwn(t *testing.T) {
	r := rand.New(rand.NewSource(4))
	for _, g := range groupsThatMayBe() {
		k := anyTask(r, g)
		was := k
		one := made(t, k)
		kept := one
		two, _ := k.prove()
		two.C, two.S = highest(), highest()
		isCheck(t, one, true)
		isCheck(t, one.with(two), false)
		if one != kept || k != was {
			t.Errorf("%x, %x became %x, %x", kept, was, one, k)
		}
		k.x, k.draw = of(0), of(0)
		isProve(t, was, kept.p, api.OK)
		isCheck(t, kept, true)
	}
}

// R4: a text is kept by nobody: bytes that told it are other ones now, and it is hashed as what it was.
func TestTextsOfBytesThatChange(t *testing.T) {
	r := rand.New(rand.NewSource(5))
	for _, g := range greatGroups() {
		k := greatTask(r, g)
		bytes := []byte("share")
		k.as = string(bytes)
		c := made(t, k)
		copy(bytes, "other")
		isProve(t, k, c.p, api.OK)
		isCheck(t, c, true)
		c.as = string(bytes)
		isCheck(t, c, false)
	}
}
