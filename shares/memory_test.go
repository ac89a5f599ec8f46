package shares_test

import (
	"math"
	"math/rand"
	"slices"
	"testing"

	"balefire/api"
	"balefire/shares"
)

// roomy: a list with spare room behind it, and all of that.
func roomy[T any](l []T, behind ...T) (list, whole []T) {
	whole = append(slices.Clone(l), behind...)
	return whole[:len(l)], whole
}

// anyNum: one that may be, for the most part.
func anyNum(r *rand.Rand, below api.Num) api.Num {
	l := []api.Num{of(1), of(2), of(3), of(4), more(below, -1), more(below, -2), of(0), below, highest()}
	return l[min(r.Intn(2*len(l)), r.Intn(len(l)))]
}

func anyList(r *rand.Rand, below api.Num, many int) []api.Num {
	var l []api.Num
	for range many {
		l = append(l, anyNum(r, below))
	}
	return l
}

// anyPlaces: unlike ones, for the most part.
func anyPlaces(r *rand.Rand) []int {
	at := places(r, r.Intn(4))
	if len(at) > 0 && r.Intn(4) == 0 {
		at[r.Intn(len(at))] = []int{-1, 0, api.MaxNodes - 1, api.MaxNodes, math.MaxInt, math.MinInt}[r.Intn(6)]
	}
	return at
}

// question: all that is handed in.
type question struct {
	g         api.Group
	p, powers []api.Num
	at        []int
	many      int
}

func anyQuestion(r *rand.Rand, p, q api.Num) question {
	at := anyPlaces(r)
	as := len(at)
	if r.Intn(8) == 0 {
		as = r.Intn(4)
	}
	g := api.Group{P: p, Q: q, G: anyNum(r, p), H: anyNum(r, p)}
	return question{g, anyList(r, q, r.Intn(4)), anyList(r, p, as), at, r.Intn(10) - 1}
}

// answered: what all calls tell.
type answered struct {
	all, hidden, raised []api.Num
	one, two, three     api.Errno
}

func (q question) ask() answered {
	var l answered
	l.all, l.one = shares.Of(q.g, q.p, q.many)
	l.hidden, l.two = shares.Secrets(q.g, q.p, q.many)
	l.raised, l.three = shares.Raise(q.g, q.at, q.powers, q.many)
	return l
}

func (l answered) is(o answered) bool {
	return slices.Equal(l.all, o.all) && slices.Equal(l.hidden, o.hidden) && slices.Equal(l.raised, o.raised) && l.one == o.one && l.two == o.two && l.three == o.three
}

// alone: nothing beside an error, and so many without one.
func (l answered) alone(many int) bool {
	listed := func(list []api.Num, e api.Errno) bool {
		return e == api.OK && len(list) == many || e != api.OK && len(list) == 0
	}
	return listed(l.all, l.one) && listed(l.hidden, l.two) && listed(l.raised, l.three)
}

// eachQuestion: by all numbers, as many as may be and as may not.
func eachQuestion(seed int64, times int, try func(r *rand.Rand, q question)) {
	r := rand.New(rand.NewSource(seed))
	for _, q := range append(orders(), nothingGoesRound()...) {
		for range times {
			p := append(modules(), of(0), of(1))[r.Intn(len(modules())+2)]
			try(r, anyQuestion(r, p, q))
		}
	}
}

// R4: lists that are handed in stay, with what lies in their spare room, whether there is an error or not.
func TestListsStay(t *testing.T) {
	eachQuestion(1, 30, func(_ *rand.Rand, q question) {
		p, wholeP := roomy(q.p, of(7), of(8), of(9))
		powers, wholePowers := roomy(q.powers, of(7), of(8), of(9))
		at, wholeAt := roomy(q.at, 5, 6, 77)
		wasP, wasPowers, wasAt := slices.Clone(wholeP), slices.Clone(wholePowers), slices.Clone(wholeAt)
		question{q.g, p, powers, at, q.many}.ask()
		if !slices.Equal(wholeP, wasP) || !slices.Equal(wholePowers, wasPowers) || !slices.Equal(wholeAt, wasAt) {
			t.Fatalf("%v: %x, %x, %d became %x, %x, %d", q, wasP, wasPowers, wasAt, wholeP, wholePowers, wholeAt)
		}
	})
}

// fill: all of a list, its spare room too.
func fill[T any](l []T, n T) {
	for i := range l[:cap(l)] {
		l[:cap(l)][i] = n
	}
}

// R4: an answer is memory of its own: what is written to it, and to its spare room, changes neither what was handed in nor another answer; and what is written to what was handed in changes no answer.
func TestAnswersAreTheirOwn(t *testing.T) {
	r := rand.New(rand.NewSource(2))
	for _, g := range groupsThatMayBe() {
		for many := 1; many <= api.MaxNodes; many++ {
			p, wholeP := roomy(some(r, g.Q, many), of(7), of(8))
			powers, wholePowers := roomy(may(r, g.P, many), of(7), of(8))
			at, wholeAt := roomy(places(r, many), 5, 6)
			wasP, wasPowers, wasAt := slices.Clone(wholeP), slices.Clone(wholePowers), slices.Clone(wholeAt)
			asked := []func() ([]api.Num, api.Errno){
				func() ([]api.Num, api.Errno) { return shares.Of(g, p, many) },
				func() ([]api.Num, api.Errno) { return shares.Secrets(g, p, min(many, api.MaxSecrets)) },
				func() ([]api.Num, api.Errno) { return shares.Raise(g, at, powers, min(many, api.MaxSecrets)) },
			}
			for _, ask := range asked {
				one, e := ask()
				was := slices.Clone(one)
				two, again := ask()
				fill(two, highest())
				if e != api.OK || again != e || len(one) == 0 || !slices.Equal(one, was) {
					t.Errorf("by %x: %x, %d, with another answer %x, %d", g.Q, was, e, one, again)
				}
				if !slices.Equal(wholeP, wasP) || !slices.Equal(wholePowers, wasPowers) || !slices.Equal(wholeAt, wasAt) {
					t.Errorf("by %x: an answer changed %x, %x, %d", g.Q, wasP, wasPowers, wasAt)
				}
				fill(wholeP, of(1))
				fill(wholePowers, of(1))
				fill(wholeAt, 1)
				if !slices.Equal(one, was) {
					t.Errorf("by %x: what was handed in changed %x to %x", g.Q, was, one)
				}
				copy(wholeP, wasP)
				copy(wholePowers, wasPowers)
				copy(wholeAt, wasAt)
			}
		}
	}
}

// R4: one list may be coefficients and powers.
func TestOneListTwice(t *testing.T) {
	r := rand.New(rand.NewSource(3))
	for _, g := range groupsThatMayBe() {
		l := may(r, g.Q, api.MaxNodes)
		for many := 1; many < len(l); many++ {
			was := slices.Clone(l)
			checkOf(t, g, l[:many], many)
			checkRaise(t, g, places(r, many), l[:many], 2)
			checkRaise(t, g, places(r, many), l[1:many+1], 2)
			checkSecrets(t, g, l[1:many+1], 2)
			if !slices.Equal(l, was) {
				t.Errorf("by %x: %x became %x", g.Q, was, l)
			}
		}
	}
}

// R1, R2, R5: whatever is handed in, all calls end, answer the same again, also when others were asked between, and nothing beside an error.
func TestAgain(t *testing.T) {
	seen := map[api.Errno]int{}
	var before question
	eachQuestion(4, 120, func(_ *rand.Rand, q question) {
		one := q.ask()
		before.ask()
		two := q.ask()
		if !one.is(two) {
			t.Errorf("%v: %v, then %v", q, one, two)
		}
		if !one.alone(q.many) {
			t.Errorf("%v: %v", q, one)
		}
		checkOf(t, q.g, q.p, q.many)
		checkSecrets(t, q.g, q.p, q.many)
		checkRaise(t, q.g, q.at, q.powers, q.many)
		seen[one.three]++
		before = q
	})
	if seen[api.OK] < 100 || seen[api.ErrNone] < 20 || seen[api.ErrArg] < 100 || len(seen) != 3 {
		t.Errorf("of Raise: %v", seen)
	}
}

// R1: long lists, those too that may not be.
func TestLongLists(t *testing.T) {
	g := groupsThatMayBe()[4]
	long := make([]api.Num, 20000)
	isOf(t, g, long, 2, list(0, 0), api.OK)
	isOf(t, g, with(long, 19999, of(3)), 1, list(3), api.OK)
	isSecrets(t, g, with(long, 19999, g.Q), 3, nil, api.ErrArg)
	at := make([]int, 20000)
	for i := range at {
		at[i] = i
	}
	fill(long, of(1))
	isRaise(t, g, at, long, 1, nil, api.ErrArg)
	isRaise(t, g, at[:7], long, 1, nil, api.ErrArg)
	isRaise(t, g, at, long[:7], 1, nil, api.ErrArg)
	isRaise(t, g, at[:7], long[:7], 1, list(1), api.OK)
}
