package tests

import (
	"math"
	"math/big"
	"math/rand"
	"slices"
	"testing"

	"loop.example/g00930/impl"
)

// train returns pairs of wheels; their teeth are told as driver, driven, driver, driven and so on.
func train(teeth ...int64) []impl.GearPair {
	var list []impl.GearPair
	for i := 0; i+1 < len(teeth); i += 2 {
		list = append(list, impl.GearPair{Driver: teeth[i], Driven: teeth[i+1]})
	}
	return list
}

func chain(play []int64, places ...int64) impl.Chain {
	return impl.Chain{Play: play, Places: places}
}

// randomTrain returns a train with some pairs, whose wheels have at most so many teeth.
func randomTrain(random *rand.Rand, pairs int, most int64) []impl.GearPair {
	var list []impl.GearPair
	for range pairs {
		list = append(list, impl.GearPair{Driver: 2 + random.Int63n(most-1), Driven: 2 + random.Int63n(most-1)})
	}
	return list
}

// validTrains has trains of all lengths, with few and with many teeth.
func validTrains() [][]impl.GearPair {
	random := rand.New(rand.NewSource(4))
	list := [][]impl.GearPair{
		train(10, 20), train(10, 20, 30, 10), train(2, 2), train(120, 120), train(2, 120), train(120, 2), train(7, 7, 7, 7, 7, 7),
		train(slices.Repeat([]int64{2, 120}, 6)...), train(slices.Repeat([]int64{120, 2}, 6)...), train(slices.Repeat([]int64{113, 119}, 6)...),
		train(slices.Repeat([]int64{119, 113}, 5)...), train(113, 109, 107, 103, 101, 97, 89, 83, 79, 73, 71, 67),
	}
	for pairs := 1; pairs <= impl.MaxPairs; pairs++ {
		for _, most := range []int64{3, 6, 20, impl.MaxTeeth} {
			for range 10 {
				list = append(list, randomTrain(random, pairs, most))
			}
		}
	}
	return list
}

func invalidTrains() [][]impl.GearPair {
	list := [][]impl.GearPair{
		nil, {}, train(slices.Repeat([]int64{2, 2}, 7)...), train(slices.Repeat([]int64{30, 40}, 1000)...),
		train(1, 2), train(2, 1), train(121, 2), train(2, 121), train(0, 2), train(2, 0), train(-2, 2), train(2, -2), train(-3, -3),
		train(2, 2, 2, 1), train(2, 2, 121, 2), train(0, 0, 2, 2), train(3, 4, 5, 6, 7, 8, 9, 10, 11, 12, 13, 1),
	}
	for _, n := range []int64{math.MaxInt64, math.MinInt64, math.MinInt64 + 1, 1<<32 + 2, 1 << 62} {
		list = append(list, train(n, 2), train(2, n), train(n, n), train(2, 2, 2, n))
	}
	return list
}

// turnsOf returns the turns of all driven wheels for a turn of the first wheel, the last one at the end.
func turnsOf(list []impl.GearPair) []*big.Rat {
	var turns []*big.Rat
	product := big.NewRat(1, 1)
	for _, p := range list {
		product = new(big.Rat).Mul(product, big.NewRat(-p.Driver, p.Driven))
		turns = append(turns, product)
	}
	return turns
}

// ratioOf is the ratio of a train, computed without any limit.
func ratioOf(list []impl.GearPair) *big.Rat {
	return turnsOf(list)[len(list)-1]
}

// lowest returns a number as a fraction in lowest terms, with the sign in Num.
func lowest(r *big.Rat) impl.Fraction {
	return impl.Fraction{Num: r.Num().Int64(), Den: r.Denom().Int64()}
}

// validChains has chains of all lengths, with places that are just as far from each other as they may be, and others.
func validChains() []impl.Chain {
	random := rand.New(rand.NewSource(44))
	list := []impl.Chain{
		chain([]int64{2}, 0, 0), chain([]int64{0}, 5, 5), chain([]int64{100}, 0, 100), chain([]int64{100}, 100, 0), chain([]int64{3}, 7, 6),
		chain([]int64{0}, impl.MaxPlace, impl.MaxPlace), chain([]int64{0}, -impl.MaxPlace, -impl.MaxPlace),
		chain([]int64{100}, impl.MaxPlace-100, impl.MaxPlace), chain([]int64{100}, -impl.MaxPlace, 100-impl.MaxPlace),
		chain([]int64{1, 0, 2}, 4, 5, 5, 3), chain(make([]int64, 10), make([]int64, 11)...),
		chain(slices.Repeat([]int64{100}, 10), 0, 100, 200, 300, 400, 500, 600, 700, 800, 900, 1000),
	}
	for links := 1; links <= impl.MaxLinks; links++ {
		for _, most := range []int64{1, 3, 10, impl.MaxPlay} {
			for range 6 {
				list = append(list, randomChain(random, links, most))
			}
		}
	}
	return list
}

// randomChain returns a chain with some links, each of which has at most so much play.
func randomChain(random *rand.Rand, links int, most int64) impl.Chain {
	c := impl.Chain{Places: []int64{random.Int63n(41) - 20}}
	for k := range links {
		play := random.Int63n(most + 1)
		c.Play = append(c.Play, play)
		c.Places = append(c.Places, c.Places[k]+random.Int63n(2*play+1)-play)
	}
	return c
}

func invalidChains() []impl.Chain {
	list := []impl.Chain{
		{}, chain([]int64{}, 0), chain(nil, 0), chain(nil, 0, 0), chain([]int64{2}), chain([]int64{2}, 0), chain([]int64{2}, 0, 0, 0), chain([]int64{2, 2}, 0, 0),
		chain(make([]int64, 11), make([]int64, 12)...), chain(make([]int64, 10), make([]int64, 10)...), chain(make([]int64, 10), make([]int64, 12)...),
		chain(make([]int64, 1000), make([]int64, 1001)...),
		chain([]int64{-1}, 0, 0), chain([]int64{101}, 0, 0), chain([]int64{2, -1}, 0, 0, 0), chain([]int64{101, 2}, 0, 0, 0),
		chain([]int64{0}, impl.MaxPlace+1, impl.MaxPlace+1), chain([]int64{0}, -impl.MaxPlace-1, -impl.MaxPlace-1),
		chain([]int64{5}, impl.MaxPlace, impl.MaxPlace+1), chain([]int64{5}, -impl.MaxPlace-1, -impl.MaxPlace),
		chain([]int64{2}, 0, 3), chain([]int64{2}, 0, -3), chain([]int64{0}, 1, 0), chain([]int64{2, 2}, 0, 1, 4), chain([]int64{2, 2}, 0, -3, -4),
		chain([]int64{100}, impl.MaxPlace, -impl.MaxPlace),
	}
	for _, n := range []int64{math.MaxInt64, math.MinInt64, math.MinInt64 + 1, 1 << 32} {
		list = append(list, chain([]int64{n}, 0, 0), chain([]int64{2}, n, n), chain([]int64{2}, 0, n), chain([]int64{2}, n, 0),
			chain([]int64{n}, n, n), chain([]int64{2}, n, -n), chain([]int64{n, n}, math.MaxInt64, math.MinInt64, n))
	}
	return list
}

// oddPlaces are ordinary numbers, limits and extremes.
var oddPlaces = append([]int64{
	impl.MaxPlace, impl.MaxPlace + 1, impl.MaxPlace - 1, -impl.MaxPlace, -impl.MaxPlace - 1, 3, 5, -4, 100, 101, -100, -1000, 1001, -1001,
}, oddNumbers...)

func TestPromise1Trains(t *testing.T) {
	lists := append(validTrains(), invalidTrains()...)
	for _, a := range lists {
		purely(t, impl.ValidTrain, a)
		purely(t, impl.RatioOf, a)
		purely(t, impl.LeastTurns, a)
		purely(t, impl.BackTrain, a)
		for _, turns := range oddPlaces {
			purely(t, impl.OutputTurns, a, turns)
		}
		for _, b := range [][]impl.GearPair{nil, train(2, 1), train(10, 20), train(3, 4, 5, 6, 7, 8), train(slices.Repeat([]int64{5, 6}, 6)...)} {
			purely(t, impl.JoinTrains, a, b)
			purely(t, impl.JoinTrains, b, a)
		}
	}
	for _, num := range oddPlaces {
		for _, den := range oddPlaces {
			purely(t, impl.FindTrain, num, den)
		}
	}
}

func TestPromise1Chains(t *testing.T) {
	chains := append(validChains(), invalidChains()...)
	for _, c := range chains {
		purely(t, impl.ValidChain, c)
		purely(t, impl.TotalPlay, c)
		for _, place := range oddPlaces {
			purely(t, impl.MoveChain, c, place)
			purely(t, impl.MoveNeeded, c, place)
		}
		for _, other := range chains[:20] {
			purely(t, impl.SameChain, c, other)
			purely(t, impl.SameChain, other, c)
		}
	}
}

func TestConstantsOfGears(t *testing.T) {
	isResult(t, "limits", all(impl.MaxTeeth, impl.MaxPairs, impl.MaxLinks, impl.MaxPlay, impl.MaxPlace), 120, 6, 10, 100, 1000000)
}

func TestValidTrain(t *testing.T) {
	for _, list := range validTrains() {
		if !impl.ValidTrain(list) {
			t.Errorf("%v is a train", list)
		}
	}
	for _, list := range invalidTrains() {
		if impl.ValidTrain(list) {
			t.Errorf("%v is no train", list)
		}
	}
	for pairs := range 10 {
		if got := impl.ValidTrain(train(slices.Repeat([]int64{30, 40}, pairs)...)); got != (pairs >= 1 && pairs <= 6) {
			t.Errorf("%d pairs: train is %v", pairs, got)
		}
	}
	for driver := int64(-3); driver <= 123; driver++ {
		for driven := int64(-3); driven <= 123; driven++ {
			want := driver >= 2 && driver <= 120 && driven >= 2 && driven <= 120
			if got := impl.ValidTrain(train(driver, driven)); got != want {
				t.Errorf("%d and %d teeth: train is %v", driver, driven, got)
			}
			if got := impl.ValidTrain(train(5, 6, 7, 8, driver, driven)); got != want {
				t.Errorf("%d and %d teeth at the end: train is %v", driver, driven, got)
			}
		}
	}
}

func TestInvalidTrainsAreRejected(t *testing.T) {
	good, invalid := train(10, 20), int64(impl.ErrInvalid)
	none, noPairs := impl.Fraction{}, []impl.GearPair(nil)
	for _, bad := range invalidTrains() {
		isResult(t, "ratio", purely(t, impl.RatioOf, bad), none, invalid)
		isResult(t, "least turns", purely(t, impl.LeastTurns, bad), int64(0), invalid)
		isResult(t, "back", purely(t, impl.BackTrain, bad), noPairs, invalid)
		for _, turns := range []int64{0, 1, 1001, -1001, math.MinInt64} { // ErrInvalid comes before ErrRange
			isResult(t, "output", purely(t, impl.OutputTurns, bad, turns), none, invalid)
		}
		full := train(slices.Repeat([]int64{5, 6}, 6)...)
		for _, pair := range [][2][]impl.GearPair{{bad, bad}, {bad, good}, {good, bad}, {bad, full}, {full, bad}} { // and before ErrFull
			isResult(t, "joined", purely(t, impl.JoinTrains, pair[0], pair[1]), noPairs, invalid)
		}
	}
}

func TestRatioOf(t *testing.T) {
	for _, c := range []struct {
		list []impl.GearPair
		want impl.Fraction
	}{
		{train(10, 20), impl.Fraction{Num: -1, Den: 2}},
		{train(20, 10), impl.Fraction{Num: -2, Den: 1}},
		{train(7, 7), impl.Fraction{Num: -1, Den: 1}},
		{train(10, 20, 30, 10), impl.Fraction{Num: 3, Den: 2}},
		{train(3, 4, 4, 3), impl.Fraction{Num: 1, Den: 1}}, // what two pairs have in common is gone
		{train(3, 4, 4, 3, 5, 5), impl.Fraction{Num: -1, Den: 1}},
		{train(6, 4, 10, 9, 14, 15), impl.Fraction{Num: -14, Den: 9}},
		{train(2, 3, 2, 3, 2, 3, 2, 3), impl.Fraction{Num: 16, Den: 81}},
		{train(slices.Repeat([]int64{120, 2}, 5)...), impl.Fraction{Num: -777600000, Den: 1}},
		{train(slices.Repeat([]int64{2, 120}, 6)...), impl.Fraction{Num: 1, Den: 46656000000}},
		{train(slices.Repeat([]int64{113, 119}, 6)...), impl.Fraction{Num: 2081951752609, Den: 2839760855281}}, // 113^6 and 119^6
	} {
		isResult(t, "ratio", purely(t, impl.RatioOf, c.list), c.want, int64(impl.OK))
	}
	for _, list := range validTrains() {
		got, code := impl.RatioOf(list)
		isResult(t, "ratio", all(got, code), lowest(ratioOf(list)), int64(impl.OK))
	}
}

// TestRatioOfAllPairs has all single pairs, and each of them twice: once the direction changes, and once it does not.
func TestRatioOfAllPairs(t *testing.T) {
	for driver := int64(2); driver <= impl.MaxTeeth; driver++ {
		for driven := int64(2); driven <= impl.MaxTeeth; driven++ {
			for _, list := range [][]impl.GearPair{train(driver, driven), train(driver, driven, driver, driven)} {
				got, code := impl.RatioOf(list)
				isResult(t, "ratio", all(got, code), lowest(ratioOf(list)), int64(impl.OK))
			}
		}
	}
}

func TestOutputTurns(t *testing.T) {
	none := impl.Fraction{}
	for _, c := range []struct {
		list  []impl.GearPair
		turns int64
		want  impl.Fraction
		code  int64
	}{
		{train(10, 20, 30, 10), 4, impl.Fraction{Num: 6, Den: 1}, impl.OK},
		{train(10, 20, 30, 10), -4, impl.Fraction{Num: -6, Den: 1}, impl.OK},
		{train(10, 20, 30, 10), 3, impl.Fraction{Num: 9, Den: 2}, impl.OK},
		{train(10, 20), 3, impl.Fraction{Num: -3, Den: 2}, impl.OK},
		{train(10, 20), -3, impl.Fraction{Num: 3, Den: 2}, impl.OK}, // both signs together are none
		{train(10, 20), 1, impl.Fraction{Num: -1, Den: 2}, impl.OK},
		{train(10, 20), 0, impl.Fraction{Num: 0, Den: 1}, impl.OK},
		{train(10, 20, 30, 10), 0, impl.Fraction{Num: 0, Den: 1}, impl.OK},
		{train(10, 20), 1000, impl.Fraction{Num: -500, Den: 1}, impl.OK},
		{train(10, 20), -1000, impl.Fraction{Num: 500, Den: 1}, impl.OK},
		{train(slices.Repeat([]int64{120, 2}, 6)...), -1000, impl.Fraction{Num: -46656000000000, Den: 1}, impl.OK},
		{train(slices.Repeat([]int64{113, 119}, 6)...), 1000, impl.Fraction{Num: 2081951752609000, Den: 2839760855281}, impl.OK},
		{train(10, 20), 1001, none, impl.ErrRange},
		{train(10, 20), -1001, none, impl.ErrRange},
		{train(10, 20), math.MaxInt64, none, impl.ErrRange},
		{train(10, 20), math.MinInt64, none, impl.ErrRange},
	} {
		isResult(t, "output for "+impl.Decimal(c.turns), purely(t, impl.OutputTurns, c.list, c.turns), c.want, c.code)
	}
	for _, list := range validTrains() {
		for turns := int64(-1000); turns <= 1000; turns += 25 {
			got, code := impl.OutputTurns(list, turns)
			want := new(big.Rat).Mul(ratioOf(list), big.NewRat(turns, 1))
			isResult(t, "output for "+impl.Decimal(turns), all(got, code), lowest(want), int64(impl.OK))
		}
	}
}

// makeWholeTurns reports whether all wheels of a train make whole turns for some turns of the first one.
func makeWholeTurns(list []impl.GearPair, turns int64) bool {
	for _, r := range turnsOf(list) {
		if !new(big.Rat).Mul(r, big.NewRat(turns, 1)).IsInt() {
			return false
		}
	}
	return true
}

func TestLeastTurns(t *testing.T) {
	for _, c := range []struct {
		list []impl.GearPair
		want int64
	}{
		{train(10, 20, 30, 10), 2},
		{train(20, 10), 1},
		{train(7, 7), 1},
		{train(10, 20), 2},
		{train(2, 3), 3},
		{train(4, 6), 3},
		{train(3, 4, 4, 3), 4}, // the wheels between make whole turns later than the last one
		{train(2, 3, 3, 2, 4, 5), 15},
		{train(2, 4, 2, 3, 3, 2), 6},
		{train(slices.Repeat([]int64{2, 120}, 6)...), 46656000000},
		{train(slices.Repeat([]int64{113, 119}, 6)...), 2839760855281},
	} {
		isResult(t, "least turns", purely(t, impl.LeastTurns, c.list), c.want, int64(impl.OK))
	}
	for _, list := range validTrains() {
		least, code := impl.LeastTurns(list)
		if code != impl.OK || least < 1 || !makeWholeTurns(list, least) {
			t.Errorf("%v: least turns are %d, %d", list, least, code)
			continue
		}
		// All numbers of turns that serve are multiples of the least one, which divides the product of all Driven.
		for prime := int64(2); prime <= impl.MaxTeeth; prime++ {
			if least%prime == 0 && makeWholeTurns(list, least/prime) {
				t.Errorf("%v: least turns are %d, but %d serve as well", list, least, least/prime)
			}
		}
	}
}

// TestLeastTurnsOfSmallTrains turns the first wheel until all wheels have made whole turns.
func TestLeastTurnsOfSmallTrains(t *testing.T) {
	random := rand.New(rand.NewSource(444))
	for pairs := 1; pairs <= 4; pairs++ {
		for range 100 {
			list := randomTrain(random, pairs, 6)
			want := int64(1)
			for !makeWholeTurns(list, want) {
				want++
			}
			got, code := impl.LeastTurns(list)
			isResult(t, "least turns", all(got, code), want, int64(impl.OK))
		}
	}
}

func TestBackTrain(t *testing.T) {
	for _, c := range []struct{ list, want []impl.GearPair }{
		{train(10, 20), train(20, 10)},
		{train(10, 20, 30, 10), train(10, 30, 20, 10)},
		{train(2, 3, 4, 5, 6, 7, 8, 9, 10, 11, 12, 13), train(13, 12, 11, 10, 9, 8, 7, 6, 5, 4, 3, 2)},
	} {
		isResult(t, "back", purely(t, impl.BackTrain, c.list), c.want, int64(impl.OK))
	}
	for _, list := range validTrains() {
		back, code := impl.BackTrain(list)
		ratio, ratioCode := impl.RatioOf(back)
		isResult(t, "ratio of the way back", all(code, ratio, ratioCode), int64(impl.OK), lowest(new(big.Rat).Inv(ratioOf(list))), int64(impl.OK))
		again, code := impl.BackTrain(back)
		isResult(t, "way back of the way back", all(again, code), list, int64(impl.OK))
	}
}

func TestJoinTrains(t *testing.T) {
	three, four := train(2, 3, 4, 5, 6, 7), train(8, 9, 10, 11, 12, 13, 14, 15)
	for _, c := range []struct {
		a, b, want []impl.GearPair
		code       int64
	}{
		{train(10, 20), train(30, 10), train(10, 20, 30, 10), impl.OK},
		{train(30, 10), train(10, 20), train(30, 10, 10, 20), impl.OK},
		{three, three, train(2, 3, 4, 5, 6, 7, 2, 3, 4, 5, 6, 7), impl.OK}, // six pairs
		{four, four[:2], train(8, 9, 10, 11, 12, 13, 14, 15, 8, 9, 10, 11), impl.OK},
		{three, four, nil, impl.ErrFull}, // seven
		{four, three, nil, impl.ErrFull},
		{train(slices.Repeat([]int64{5, 6}, 6)...), train(2, 2), nil, impl.ErrFull},
		{train(slices.Repeat([]int64{5, 6}, 6)...), train(slices.Repeat([]int64{5, 6}, 6)...), nil, impl.ErrFull},
	} {
		isResult(t, "joined", purely(t, impl.JoinTrains, c.a, c.b), c.want, c.code)
	}
}

func TestPromise4Trains(t *testing.T) {
	list := validTrains()
	for _, a := range list {
		for _, b := range list {
			joined, code := impl.JoinTrains(a, b)
			if len(a)+len(b) > impl.MaxPairs {
				isResult(t, "joined", all(joined, code), []impl.GearPair(nil), int64(impl.ErrFull))
				continue
			}
			ratio, ratioCode := impl.RatioOf(joined)
			want := new(big.Rat).Mul(ratioOf(a), ratioOf(b))
			isResult(t, "ratio of joined trains", all(code, ratio, ratioCode), int64(impl.OK), lowest(want), int64(impl.OK))
			isResult(t, "joined", all(joined), append(slices.Clone(a), b...))
		}
	}
}

// trainFor looks for the train of two numbers as the document tells it: for each p, all q in order.
func trainFor(num, den int64) []impl.GearPair {
	g := new(big.Int).GCD(nil, nil, big.NewInt(num), big.NewInt(den)).Int64()
	num, den = num/g, den/g
	for p := int64(1); p <= num; p++ {
		if num%p != 0 || 2*p > impl.MaxTeeth || 2*(num/p) > impl.MaxTeeth {
			continue
		}
		for q := int64(1); q <= den; q++ {
			if den%q == 0 && 2*q <= impl.MaxTeeth && 2*(den/q) <= impl.MaxTeeth {
				return train(2*p, 2*q, 2*(num/p), 2*(den/q))
			}
		}
	}
	return nil
}

func TestFindTrain(t *testing.T) {
	for _, c := range []struct {
		num, den int64
		want     []impl.GearPair
		code     int64
	}{
		{3, 2, train(2, 2, 6, 4), impl.OK},
		{1, 1, train(2, 2, 2, 2), impl.OK},
		{1000000, 1000000, train(2, 2, 2, 2), impl.OK},
		{30, 20, train(2, 2, 6, 4), impl.OK},
		{60, 1, train(2, 2, 120, 2), impl.OK}, // a wheel with the most teeth
		{61, 1, nil, impl.ErrNotFound},
		{1, 60, train(2, 2, 2, 120), impl.OK},
		{1, 61, nil, impl.ErrNotFound},
		{61, 61, train(2, 2, 2, 2), impl.OK},
		{62, 1, train(4, 2, 62, 2), impl.OK}, // the other factor of 1 is too great
		{120, 1, train(4, 2, 120, 2), impl.OK},
		{1, 120, train(2, 4, 2, 120), impl.OK},
		{3600, 1, train(120, 2, 120, 2), impl.OK},
		{1, 3600, train(2, 120, 2, 120), impl.OK},
		{3481, 3600, train(118, 120, 118, 120), impl.OK},
		{3601, 1, nil, impl.ErrNotFound},
		{3660, 1, nil, impl.ErrNotFound}, // 60 times 61
		{122, 1, nil, impl.ErrNotFound},  // 2 times 61
		{1, 122, nil, impl.ErrNotFound},
		{122, 61, train(2, 2, 4, 2), impl.OK},
		{999983, 1, nil, impl.ErrNotFound},
		{1, 999983, nil, impl.ErrNotFound},
		{999983, 999983, train(2, 2, 2, 2), impl.OK},
		{1000000, 1, nil, impl.ErrNotFound},
		{1000000, 999999, nil, impl.ErrNotFound},
		{1000000, 3125, train(16, 2, 80, 2), impl.OK}, // 320 is 8 times 40
		{0, 1, nil, impl.ErrRange},
		{1, 0, nil, impl.ErrRange},
		{0, 0, nil, impl.ErrRange},
		{-3, 2, nil, impl.ErrRange},
		{3, -2, nil, impl.ErrRange},
		{-3, -2, nil, impl.ErrRange},
		{1000001, 1, nil, impl.ErrRange},
		{1, 1000001, nil, impl.ErrRange},
		{1000001, 1000001, nil, impl.ErrRange},
		{999983, 0, nil, impl.ErrRange}, // ErrRange comes before ErrNotFound
		{math.MaxInt64, 1, nil, impl.ErrRange},
		{math.MinInt64, 1, nil, impl.ErrRange},
		{1, math.MinInt64, nil, impl.ErrRange},
	} {
		isResult(t, "train for "+impl.Decimal(c.num)+" / "+impl.Decimal(c.den), purely(t, impl.FindTrain, c.num, c.den), c.want, c.code)
	}
}

func checkFoundTrain(t *testing.T, num, den int64) {
	t.Helper()
	what := "train for " + impl.Decimal(num) + " / " + impl.Decimal(den)
	want := trainFor(num, den)
	got, code := impl.FindTrain(num, den)
	if want == nil {
		isResult(t, what, all(got, code), want, int64(impl.ErrNotFound))
		return
	}
	isResult(t, what, all(got, code), want, int64(impl.OK))
	ratio, code := impl.RatioOf(got)
	isResult(t, "ratio of the "+what, all(ratio, code), lowest(big.NewRat(num, den)), int64(impl.OK))
}

func TestFindTrainForManyRatios(t *testing.T) {
	for num := int64(1); num <= 130; num++ {
		for den := int64(1); den <= 130; den++ {
			checkFoundTrain(t, num, den)
		}
	}
	for n := int64(1); n <= 3700; n++ {
		checkFoundTrain(t, n, 1)
		checkFoundTrain(t, 7, n)
		checkFoundTrain(t, n, 3599-n%7)
	}
	random := rand.New(rand.NewSource(4444))
	for range 2000 {
		checkFoundTrain(t, 1+random.Int63n(1000000), 1+random.Int63n(1000000))
		factor := 1 + random.Int63n(270)
		checkFoundTrain(t, factor*(1+random.Int63n(60))*(1+random.Int63n(60)), factor*(1+random.Int63n(60))*(1+random.Int63n(60)))
	}
}

func TestValidChain(t *testing.T) {
	for _, c := range validChains() {
		if !impl.ValidChain(c) {
			t.Errorf("%v is valid", c)
		}
	}
	for _, c := range invalidChains() {
		if impl.ValidChain(c) {
			t.Errorf("%v is not valid", c)
		}
	}
	for links := range 14 {
		for places := range 14 {
			want := links >= 1 && links <= 10 && places == links+1
			if got := impl.ValidChain(chain(make([]int64, links), make([]int64, places)...)); got != want {
				t.Errorf("%d plays and %d places: valid is %v", links, places, got)
			}
		}
	}
	for play := int64(-2); play <= 102; play++ {
		for place := int64(-104); place <= 104; place++ {
			want := play >= 0 && play <= 100 && place <= play && -place <= play
			if got := impl.ValidChain(chain([]int64{play}, 7, 7+place)); got != want {
				t.Errorf("play %d and a difference of %d: valid is %v", play, place, got)
			}
			if got := impl.ValidChain(chain([]int64{3, play, 4}, 1, 3, 3+place, 4+place)); got != want {
				t.Errorf("play %d and a difference of %d between others: valid is %v", play, place, got)
			}
		}
	}
}

func TestInvalidChainsAreRejected(t *testing.T) {
	invalid := int64(impl.ErrInvalid)
	for _, bad := range invalidChains() {
		isResult(t, "total play", purely(t, impl.TotalPlay, bad), int64(0), invalid)
		for _, place := range []int64{0, 5, impl.MaxPlace, impl.MaxPlace + 1, -impl.MaxPlace - 1, math.MinInt64} { // ErrInvalid comes before ErrRange
			isResult(t, "moved chain", purely(t, impl.MoveChain, bad, place), impl.Chain{}, invalid)
			isResult(t, "needed move", purely(t, impl.MoveNeeded, bad, place), int64(0), invalid)
		}
	}
}

func TestSameChain(t *testing.T) {
	list := []impl.Chain{
		chain([]int64{2}, 0, 0), chain([]int64{3}, 0, 0), chain([]int64{2}, 0, 1), chain([]int64{2}, 1, 0), chain([]int64{2, 0}, 0, 0), chain([]int64{2}, 0, 0, 0),
		chain([]int64{2}, 0), chain(nil, 0, 0), chain([]int64{2}), {}, chain([]int64{math.MinInt64}, math.MaxInt64), chain([]int64{0, 0}, 2), chain(nil, 2),
	}
	for i, a := range list {
		for k, b := range list {
			copied := impl.Chain{Play: slices.Clone(b.Play), Places: slices.Clone(b.Places)}
			if got := impl.SameChain(a, copied); got != (i == k) {
				t.Errorf("SameChain(%v, %v) is %v", a, b, got)
			}
		}
	}
	empty := impl.Chain{Play: []int64{}, Places: []int64{}}
	if !impl.SameChain(empty, impl.Chain{}) || !impl.SameChain(impl.Chain{}, empty) {
		t.Error("nil slices and empty ones are not the same")
	}
}

func TestMoveChain(t *testing.T) {
	none := impl.Chain{}
	for _, c := range []struct {
		c    impl.Chain
		to   int64
		want impl.Chain
		code int64
	}{
		{chain([]int64{2}, 0, 0), 5, chain([]int64{2}, 5, 3), impl.OK},
		{chain([]int64{2}, 0, 0), -5, chain([]int64{2}, -5, -3), impl.OK},
		{chain([]int64{2}, 0, 0), 2, chain([]int64{2}, 2, 0), impl.OK}, // just as far as the play goes
		{chain([]int64{2}, 0, 0), 3, chain([]int64{2}, 3, 1), impl.OK},
		{chain([]int64{2}, 0, 0), -2, chain([]int64{2}, -2, 0), impl.OK},
		{chain([]int64{2}, 0, 0), -3, chain([]int64{2}, -3, -1), impl.OK},
		{chain([]int64{2}, 0, 0), 0, chain([]int64{2}, 0, 0), impl.OK},
		{chain([]int64{2}, 4, 2), 5, chain([]int64{2}, 5, 3), impl.OK},
		{chain([]int64{2}, 4, 2), 0, chain([]int64{2}, 0, 2), impl.OK}, // all of the play is behind
		{chain([]int64{2}, 4, 2), -1, chain([]int64{2}, -1, 1), impl.OK},
		{chain([]int64{0}, 5, 5), 6, chain([]int64{0}, 6, 6), impl.OK},
		{chain([]int64{1, 2, 3}, 0, 0, 0, 0), 4, chain([]int64{1, 2, 3}, 4, 3, 1, 0), impl.OK},
		{chain([]int64{1, 2, 3}, 0, 0, 0, 0), 7, chain([]int64{1, 2, 3}, 7, 6, 4, 1), impl.OK},
		{chain([]int64{1, 2, 3}, 0, 0, 2, 5), 7, chain([]int64{1, 2, 3}, 7, 6, 4, 5), impl.OK}, // the last one is ahead, and stays
		{chain([]int64{2, 0, 1}, 0, 0, 0, 1), -4, chain([]int64{2, 0, 1}, -4, -2, -2, -1), impl.OK},
		{chain([]int64{100}, impl.MaxPlace-100, impl.MaxPlace), impl.MaxPlace, chain([]int64{100}, impl.MaxPlace, impl.MaxPlace), impl.OK},
		{chain([]int64{100}, 0, 0), impl.MaxPlace, chain([]int64{100}, impl.MaxPlace, impl.MaxPlace-100), impl.OK},
		{chain([]int64{100}, 0, 0), -impl.MaxPlace, chain([]int64{100}, -impl.MaxPlace, 100-impl.MaxPlace), impl.OK},
		{chain([]int64{100}, 0, 0), impl.MaxPlace + 1, none, impl.ErrRange},
		{chain([]int64{100}, 0, 0), -impl.MaxPlace - 1, none, impl.ErrRange},
		{chain([]int64{100}, 0, 0), math.MaxInt64, none, impl.ErrRange},
		{chain([]int64{100}, 0, 0), math.MinInt64, none, impl.ErrRange},
	} {
		isResult(t, "chain moved to "+impl.Decimal(c.to), purely(t, impl.MoveChain, c.c, c.to), c.want, c.code)
	}
}

// moved finds the places after a move by trying: each place goes on by one until it is near enough to the one before it.
func moved(c impl.Chain, to int64) impl.Chain {
	places := slices.Clone(c.Places)
	places[0] = to
	for k, play := range c.Play {
		for places[k+1]+play < places[k] {
			places[k+1]++
		}
		for places[k+1]-play > places[k] {
			places[k+1]--
		}
	}
	return impl.Chain{Play: c.Play, Places: places}
}

func TestPromise4Chains(t *testing.T) {
	for _, c := range validChains() {
		first := c.Places[0]
		for by := int64(-1200); by <= 1200; by += 1 + max(by, -by)/10 {
			to := first + by
			if to < -impl.MaxPlace || to > impl.MaxPlace {
				continue
			}
			got, code := impl.MoveChain(c, to)
			isResult(t, "chain moved to "+impl.Decimal(to), all(got, code, impl.ValidChain(got)), moved(c, to), int64(impl.OK), true)
		}
	}
}

func TestTotalPlay(t *testing.T) {
	for _, c := range []struct {
		c    impl.Chain
		want int64
	}{
		{chain([]int64{2}, 0, 0), 2},
		{chain([]int64{0}, 5, 5), 0},
		{chain([]int64{1, 0, 2}, 4, 5, 5, 3), 3},
		{chain(slices.Repeat([]int64{100}, 10), make([]int64, 11)...), 1000},
		{chain([]int64{1, 2, 3, 4, 5, 6, 7, 8, 9, 10}, make([]int64, 11)...), 55},
	} {
		isResult(t, "total play", purely(t, impl.TotalPlay, c.c), c.want, int64(impl.OK))
	}
}

func TestMoveNeeded(t *testing.T) {
	for _, c := range []struct {
		c    impl.Chain
		goal int64
		want int64
		code int64
	}{
		{chain([]int64{2}, 0, 0), 3, 5, impl.OK},
		{chain([]int64{2}, 0, 0), -4, -6, impl.OK},
		{chain([]int64{2}, 0, 0), 0, 0, impl.OK},
		{chain([]int64{2}, 2, 0), 0, 2, impl.OK}, // the last place is there already
		{chain([]int64{2}, 2, 0), 1, 3, impl.OK},
		{chain([]int64{2}, 2, 0), 2, 4, impl.OK}, // the goal is the first place, not the last one
		{chain([]int64{2}, 2, 0), -1, -3, impl.OK},
		{chain([]int64{1, 0, 2}, 4, 5, 5, 3), 4, 7, impl.OK},
		{chain([]int64{1, 0, 2}, 4, 5, 5, 3), 2, -1, impl.OK},
		{chain([]int64{1, 0, 2}, 4, 5, 5, 3), 3, 4, impl.OK},
		{chain([]int64{2}, 0, 0), impl.MaxPlace - 2, impl.MaxPlace, impl.OK},
		{chain([]int64{2}, 0, 0), impl.MaxPlace - 1, 0, impl.ErrRange},
		{chain([]int64{2}, 0, 0), impl.MaxPlace, 0, impl.ErrRange},
		{chain([]int64{2}, 0, 0), impl.MaxPlace + 1, 0, impl.ErrRange},
		{chain([]int64{2}, 0, 0), 2 - impl.MaxPlace, -impl.MaxPlace, impl.OK},
		{chain([]int64{2}, 0, 0), 1 - impl.MaxPlace, 0, impl.ErrRange},
		{chain([]int64{2}, 0, 0), -impl.MaxPlace, 0, impl.ErrRange},
		{chain([]int64{2}, 0, 0), -impl.MaxPlace - 1, 0, impl.ErrRange},
		{chain([]int64{2}, 0, 0), math.MaxInt64, 0, impl.ErrRange},
		{chain([]int64{2}, 0, 0), math.MinInt64, 0, impl.ErrRange},
		{chain([]int64{0}, 5, 5), impl.MaxPlace, impl.MaxPlace, impl.OK},
		{chain([]int64{0}, 5, 5), -impl.MaxPlace, -impl.MaxPlace, impl.OK},
		{chain([]int64{0}, 5, 5), impl.MaxPlace + 1, 0, impl.ErrRange},
		{chain([]int64{0}, 5, 5), -impl.MaxPlace - 1, 0, impl.ErrRange},
		{chain([]int64{9}, impl.MaxPlace-9, impl.MaxPlace), impl.MaxPlace, impl.MaxPlace - 9, impl.OK},
		{chain([]int64{9}, impl.MaxPlace, impl.MaxPlace-9), impl.MaxPlace - 9, impl.MaxPlace, impl.OK},
		{chain([]int64{9}, 3-impl.MaxPlace, -impl.MaxPlace), -impl.MaxPlace, 3 - impl.MaxPlace, impl.OK},
	} {
		isResult(t, "move needed to "+impl.Decimal(c.goal), purely(t, impl.MoveNeeded, c.c, c.goal), c.want, c.code)
	}
}

// TestMoveNeededLeadsToTheGoal checks that the needed move leads there, and that a move that is not so far does not.
func TestMoveNeededLeadsToTheGoal(t *testing.T) {
	for _, c := range validChains() {
		last := c.Places[len(c.Places)-1]
		for by := int64(-40); by <= 40; by++ {
			goal := last + by
			to, code := impl.MoveNeeded(c, goal)
			if max(goal, -goal, to, -to) > impl.MaxPlace-1100 {
				continue // not all moves are possible here
			}
			got, moveCode := impl.MoveChain(c, to)
			isResult(t, "move needed to "+impl.Decimal(goal), all(code, moveCode, got.Places[len(c.Play)]), int64(impl.OK), int64(impl.OK), goal)
			if by == 0 {
				isResult(t, "chain that is there", all(to, got), c.Places[0], c)
				continue
			}
			less := to - by/max(by, -by)
			got, _ = impl.MoveChain(c, less)
			if got.Places[len(c.Play)] == goal {
				t.Errorf("%v: the move to %d is enough for %d, but %d is told", c, less, goal, to)
			}
		}
	}
}
