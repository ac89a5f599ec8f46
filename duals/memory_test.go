package duals_test

import (
	"math"
	"math/rand"
	"slices"
	"testing"

	"balefire/api"
	"balefire/duals"
)

// roomy: a list with spare room behind it, and all of that.
func roomy(l []api.Num, behind ...api.Num) (list, whole []api.Num) {
	whole = append(slices.Clone(l), behind...)
	return whole[:len(l)], whole
}

// anyNum: one that may be, for the most part.
func anyNum(r *rand.Rand, below api.Num) api.Num {
	l := []api.Num{of(1), of(2), of(3), of(4), more(below, -1), more(below, -2), of(0), below, highest()}
	return l[min(r.Intn(2*len(l)), r.Intn(len(l)))]
}

func anyList(r *rand.Rand, below api.Num, many int) []api.Num {
	var l []api.Num
	for range many {
		l = append(l, anyNum(r, below))
	}
	return l
}

// anyMany: one that may be, for the most part.
func anyMany(r *rand.Rand) int {
	if r.Intn(10) == 0 {
		return []int{0, -1, api.MaxNodes + 1, math.MaxInt, math.MinInt}[r.Intn(5)]
	}
	return 1 + r.Intn(api.MaxNodes)
}

// question: all that is handed in.
type question struct {
	g                   api.Group
	p, v                []api.Num
	nodes, coefficients int
}

func anyQuestion(r *rand.Rand, p, q api.Num) question {
	nodes := anyMany(r)
	v := anyList(r, p, r.Intn(5))
	if r.Intn(2) == 0 {
		v = may(r, more(p, 2), r.Intn(api.MaxNodes+2))
	}
	g := api.Group{P: p, Q: q, G: anyNum(r, p), H: anyNum(r, p)}
	return question{g, anyList(r, q, r.Intn(4)), v, nodes, r.Intn(6)}
}

// answered: what both calls tell.
type answered struct {
	word     []api.Num
	pass     bool
	one, two api.Errno
}

func (q question) ask() answered {
	var l answered
	l.word, l.one = duals.Word(q.g, q.nodes, q.p)
	l.pass, l.two = duals.Check(q.g, q.v, q.coefficients)
	return l
}

func (l answered) is(o answered) bool {
	return slices.Equal(l.word, o.word) && l.pass == o.pass && l.one == o.one && l.two == o.two
}

// alone: nothing beside an error, and as many as nodes without one.
func (l answered) alone(nodes int) bool {
	listed := l.one == api.OK && len(l.word) == nodes || l.one != api.OK && len(l.word) == 0
	return listed && (l.two == api.OK || !l.pass)
}

// eachQuestion: by all numbers, as many as may be and as may not.
func eachQuestion(seed int64, times int, try func(r *rand.Rand, q question)) {
	r := rand.New(rand.NewSource(seed))
	moduli := append(modules(), of(0), of(1))
	for _, q := range append(orders(), nothingGoesRound()...) {
		for range times {
			try(r, anyQuestion(r, moduli[r.Intn(len(moduli))], q))
		}
	}
}

// R4: lists that are handed in stay, with what lies in their spare room, whether there is an error or not.
func TestListsStay(t *testing.T) {
	eachQuestion(1, 60, func(_ *rand.Rand, q question) {
		p, wholeP := roomy(q.p, of(7), of(8), of(9))
		v, wholeV := roomy(q.v, of(7), of(8), of(9))
		wasP, wasV := slices.Clone(wholeP), slices.Clone(wholeV)
		question{q.g, p, v, q.nodes, q.coefficients}.ask()
		if !slices.Equal(wholeP, wasP) || !slices.Equal(wholeV, wasV) {
			t.Fatalf("%v: %x, %x became %x, %x", q, wasP, wasV, wholeP, wholeV)
		}
	})
}

// fill: all of a list, its spare room too.
func fill(l []api.Num, n api.Num) {
	for i := range l[:cap(l)] {
		l[:cap(l)][i] = n
	}
}

// R4: an answer is memory of its own: what is written to it, and to its spare room, changes neither what was handed in nor another answer; and what is written to what was handed in changes no answer.
func TestAnswersAreTheirOwn(t *testing.T) {
	r := rand.New(rand.NewSource(2))
	for _, g := range groupsThatMayBe() {
		for nodes := 1; nodes <= api.MaxNodes; nodes++ {
			for many := range nodes {
				p, whole := roomy(some(r, g.Q, many), of(7), of(8), of(9), of(10), of(11), of(12), of(13))
				was := slices.Clone(whole)
				one, e := duals.Word(g, nodes, p)
				answer := slices.Clone(one)
				two, again := duals.Word(g, nodes, p)
				fill(two, highest())
				if e != api.OK || again != e || len(one) != nodes || !slices.Equal(one, answer) {
					t.Errorf("by %x: %x, %d, with another answer %x, %d", g.Q, answer, e, one, again)
				}
				if !slices.Equal(whole, was) {
					t.Errorf("by %x: an answer changed %x to %x", g.Q, was, whole)
				}
				fill(whole, of(1))
				if !slices.Equal(one, answer) {
					t.Errorf("by %x: what was handed in changed %x to %x", g.Q, answer, one)
				}
			}
		}
	}
}

// R4: what Check was asked with may be written to behind it, and the next one tells what stands there then.
func TestCheckKeepsNothing(t *testing.T) {
	r := rand.New(rand.NewSource(3))
	for _, g := range groupsThatMayBe() {
		for nodes := 2; nodes <= api.MaxNodes; nodes++ {
			v := raised(t, g, g.G, valuesOf(t, g, some(r, g.Q, 1), nodes))
			was := slices.Clone(v)
			isCheck(t, g, v, 1, true, api.OK)
			v[nodes-1] = another(g, v[nodes-1])
			isCheck(t, g, v, 1, false, api.OK)
			fill(v, of(0))
			isCheck(t, g, v, 1, false, api.ErrArg)
			copy(v, was)
			isCheck(t, g, v, 1, true, api.OK)
		}
	}
}

// another: number of the group.
func another(g api.Group, a api.Num) api.Num {
	if a == g.G {
		return g.H
	}
	return g.G
}

// R4: one list may be coefficients and powers, and parts of one may be both.
func TestOneListTwice(t *testing.T) {
	r := rand.New(rand.NewSource(4))
	for _, g := range groupsThatMayBe() {
		l := may(r, g.Q, api.MaxNodes)
		for many := 1; many < len(l); many++ {
			was := slices.Clone(l)
			checkWord(t, g, many+1, l[:many])
			checkCheck(t, g, l[:many], 1)
			checkCheck(t, g, l[1:many+1], 1)
			checkWord(t, g, many+1, l[1:many+1])
			if !slices.Equal(l, was) {
				t.Errorf("by %x: %x became %x", g.Q, was, l)
			}
		}
	}
}

// R1, R2, R5: whatever is handed in, both calls end, answer the same again, also when others were asked between, and nothing beside an error.
func TestAgain(t *testing.T) {
	words, checks, passed := map[api.Errno]int{}, map[api.Errno]int{}, 0
	var before question
	eachQuestion(5, 120, func(_ *rand.Rand, q question) {
		one := q.ask()
		before.ask()
		two := q.ask()
		if !one.is(two) {
			t.Errorf("%v: %v, then %v", q, one, two)
		}
		if !one.alone(q.nodes) {
			t.Errorf("%v: %v", q, one)
		}
		checkWord(t, q.g, q.nodes, q.p)
		checkCheck(t, q.g, q.v, q.coefficients)
		words[one.one]++
		checks[one.two]++
		if one.pass {
			passed++
		}
		before = q
	})
	for _, seen := range []map[api.Errno]int{words, checks} {
		if seen[api.OK] < 100 || seen[api.ErrNone] < 50 || seen[api.ErrArg] < 100 || len(seen) != 3 {
			t.Errorf("of Word: %v, of Check: %v", words, checks)
		}
	}
	if passed < 50 || passed > checks[api.OK]-50 {
		t.Errorf("%d of %d passed", passed, checks[api.OK])
	}
}

// R1: long lists, those too that may not be, and numbers far beyond them.
func TestLongLists(t *testing.T) {
	g := groupsThatMayBe()[4]
	long := make([]api.Num, 20000)
	for _, nodes := range append(outside(api.MaxNodes), 1, 2, api.MaxNodes, len(long), len(long)+1) {
		isWord(t, g, nodes, long, nil, api.ErrArg)
	}
	isWord(t, g, api.MaxNodes, long[:6], make([]api.Num, api.MaxNodes), api.OK)
	fill(long, of(1))
	for _, coefficients := range append(outside(api.MaxNodes), 1, 2, api.MaxNodes, len(long), len(long)+1) {
		isCheck(t, g, long, coefficients, false, api.ErrArg)
	}
	isCheck(t, g, long[:api.MaxNodes], 1, true, api.OK)
}
