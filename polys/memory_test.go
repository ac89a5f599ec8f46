package polys_test

import (
	"math/rand"
	"slices"
	"testing"

	"balefire/api"
	"balefire/polys"
)

// roomy: a list with spare room behind it, and all of that.
func roomy(l []api.Num) (list, whole []api.Num) {
	whole = append(slices.Clone(l), of(7), of(8), of(9))
	return whole[:len(l)], whole
}

// R4: lists that are handed in stay, with what lies in their spare room, whether there is an error or not.
func TestListsStay(t *testing.T) {
	some := rand.New(rand.NewSource(1))
	for _, q := range append(orders(), nothingGoesRound()...) {
		for range 20 {
			a, wholeA := roomy(anyList(some, q))
			b, wholeB := roomy(anyList(some, q))
			wasA, wasB := slices.Clone(wholeA), slices.Clone(wholeB)
			x := anyNum(some, q)
			polys.At(by(q), a, x)
			polys.Weights(by(q), a, x)
			polys.Through(by(q), a, b)
			polys.Through(by(q), a, a)
			if !slices.Equal(wholeA, wasA) || !slices.Equal(wholeB, wasB) {
				t.Fatalf("by %x: %x and %x became %x and %x", q, wasA, wasB, wholeA, wholeB)
			}
		}
	}
}

// anyNum: one that may be, for the most part.
func anyNum(r *rand.Rand, q api.Num) api.Num {
	l := []api.Num{of(0), of(1), of(2), of(3), of(4), more(q, -1), more(q, -2), q, highest()}
	return l[min(r.Intn(2*len(l)), r.Intn(len(l)))]
}

func anyList(r *rand.Rand, q api.Num) []api.Num {
	var l []api.Num
	for range r.Intn(4) {
		l = append(l, anyNum(r, q))
	}
	return l
}

// fill: all of a list, its spare room too.
func fill(l []api.Num, n api.Num) {
	for i := range l[:cap(l)] {
		l[:cap(l)][i] = n
	}
}

// R4: an answer is memory of its own: what is written to it, and to its spare room, changes neither what was handed in nor another answer; and what is written to what was handed in changes no answer.
func TestAnswersAreTheirOwn(t *testing.T) {
	some := rand.New(rand.NewSource(2))
	for _, q := range []api.Num{of(11), of(257), near(255, -19), ofTwoGreat()} {
		for many := 1; many < 8; many++ {
			points, values := unlike(some, q, many), unlike(some, q, many)
			points, wholePoints := roomy(points)
			values, wholeValues := roomy(values)
			wasPoints, wasValues := slices.Clone(wholePoints), slices.Clone(wholeValues)
			asked := []func() ([]api.Num, api.Errno){
				func() ([]api.Num, api.Errno) { return polys.Weights(by(q), points, of(0)) },
				func() ([]api.Num, api.Errno) { return polys.Weights(by(q), points, points[0]) },
				func() ([]api.Num, api.Errno) { return polys.Through(by(q), points, values) },
				func() ([]api.Num, api.Errno) { return polys.Through(by(q), points, points) },
			}
			for _, ask := range asked {
				one, e := ask()
				was := slices.Clone(one)
				two, again := ask()
				fill(two, highest())
				if e != api.OK || again != e || !slices.Equal(one, was) {
					t.Errorf("by %x: %x, %d, with another answer %x, %d", q, was, e, one, again)
				}
				if !slices.Equal(wholePoints, wasPoints) || !slices.Equal(wholeValues, wasValues) {
					t.Errorf("by %x: an answer changed %x, %x", q, wasPoints, wasValues)
				}
				fill(wholePoints, of(1))
				fill(wholeValues, of(1))
				if !slices.Equal(one, was) {
					t.Errorf("by %x: what was handed in changed %x to %x", q, was, one)
				}
				copy(wholePoints, wasPoints)
				copy(wholeValues, wasValues)
			}
		}
	}
}

// R4: one list may be handed in twice, or parts of one that lie over each other.
func TestListsThatLieOverEachOther(t *testing.T) {
	r := rand.New(rand.NewSource(3))
	for _, q := range orders() {
		l := unlike(r, q, 9)
		for many := range len(l) {
			checkThrough(t, by(q), l[:many], l[:many])
			checkThrough(t, by(q), l[:many], l[1:many+1])
			checkThrough(t, by(q), l[1:many+1], l[:many])
			checkAt(t, by(q), l[:many], l[many])
			checkWeights(t, by(q), l[:many], l[many])
		}
	}
}

// answered: what all calls tell.
type answered struct {
	value         api.Num
	weights, p    []api.Num
	one, two, all api.Errno
}

func everything(g api.Group, a, b []api.Num, x api.Num) answered {
	var l answered
	l.value, l.one = polys.At(g, a, x)
	l.weights, l.two = polys.Weights(g, a, x)
	l.p, l.all = polys.Through(g, a, b)
	return l
}

func (l answered) is(o answered) bool {
	return l.value == o.value && slices.Equal(l.weights, o.weights) && slices.Equal(l.p, o.p) && l.one == o.one && l.two == o.two && l.all == o.all
}

// alone: nothing beside an error, and an answer of so many without one.
func (l answered) alone(many int) bool {
	listed := func(list []api.Num, e api.Errno) bool {
		return e == api.OK && len(list) == many || e != api.OK && len(list) == 0
	}
	return (l.one == api.OK || l.value == of(0)) && listed(l.weights, l.two) && listed(l.p, l.all)
}

// R1, R2, R5: whatever is handed in, all calls end, answer the same again, also when others were asked between, and nothing beside an error.
func TestAgain(t *testing.T) {
	r := rand.New(rand.NewSource(4))
	none, fine := 0, 0
	for _, q := range append(orders(), nothingGoesRound()...) {
		for range 150 {
			g := api.Group{P: anyNum(r, q), Q: q, G: anyNum(r, q), H: anyNum(r, q)}
			a, b, x := anyList(r, q), anyList(r, q), anyNum(r, q)
			one := everything(g, a, b, x)
			everything(api.Group{Q: anyNum(r, q)}, b, a, of(1))
			everything(g, b, a, anyNum(r, q))
			two := everything(g, a, b, x)
			if !one.is(two) {
				t.Errorf("by %x, of %x, %x, %x: %v, then %v", g, a, b, x, one, two)
			}
			if !one.alone(len(a)) {
				t.Errorf("by %x, of %x, %x, %x: %v", g, a, b, x, one)
			}
			checkAt(t, g, a, x)
			checkWeights(t, g, a, x)
			checkThrough(t, g, a, b)
			if one.two == api.ErrNone {
				none++
			} else if one.two == api.OK {
				fine++
			}
		}
	}
	if none < 100 || fine < 100 {
		t.Errorf("of weights %d had no inverse, %d were told", none, fine)
	}
}

// R1: long lists, those too that may not be.
func TestLongLists(t *testing.T) {
	q := near(255, -19)
	var long []api.Num
	for n := range uint64(20000) {
		long = append(long, of(n))
	}
	isAt(t, by(q), with(make([]api.Num, 20000), 19999, of(3)), of(1), of(3), api.OK)
	isAt(t, by(q), with(long, 19999, q), of(1), of(0), api.ErrArg)
	isWeights(t, by(q), with(long, 19999, q), of(1), nil, api.ErrArg)
	isWeights(t, by(q), with(long, 19999, of(0)), of(1), nil, api.ErrArg)
	isThrough(t, by(q), with(long, 19999, of(0)), long, nil, api.ErrArg)
	isThrough(t, by(q), long, with(long, 19999, q), nil, api.ErrArg)
	isThrough(t, by(q), long, long[:19999], nil, api.ErrArg)
}
