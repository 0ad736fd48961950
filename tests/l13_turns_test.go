package tests

import (
	"fmt"
	"math"
	"math/big"
	"math/rand"
	"slices"
	"strconv"
	"strings"
	"testing"

	"loop.example/g00930/impl"
)

// greatestFactor is the greatest factor for which turns are found.
const greatestFactor = 62500000

func turnDigits(base int64, turns ...int64) impl.TurnDigits {
	return impl.TurnDigits{Base: base, Turns: turns}
}

// sameForm returns turns in a form in which no turns and empty ones are deeply equal.
func sameForm(t impl.TurnDigits) impl.TurnDigits {
	return turnDigits(t.Base, append([]int64(nil), t.Turns...)...)
}

// areTurns checks turns and a code that a function has returned.
func areTurns(t *testing.T, what string, got []any, want impl.TurnDigits, code int64) {
	t.Helper()
	isResult(t, what, all(sameForm(got[0].(impl.TurnDigits)), got[1]), sameForm(want), code)
}

// factorParts returns the factor of turns, and the parts of it from each place on upwards, as if this place were the lowest one.
func factorParts(t impl.TurnDigits) (*big.Int, []*big.Int) {
	var parts []*big.Int
	for k := range t.Turns {
		part := new(big.Int)
		for j, n := range t.Turns[k:] {
			part.Add(part, new(big.Int).Mul(big.NewInt(n), powerOf(t.Base, int64(j))))
		}
		parts = append(parts, part)
	}
	if len(parts) == 0 {
		return new(big.Int), nil
	}
	return parts[0], parts
}

func isTurns(t impl.TurnDigits) bool {
	if t.Base < 2 || t.Base > 16 || len(t.Turns) > 40 || len(t.Turns) > 0 && t.Turns[len(t.Turns)-1] == 0 {
		return false
	}
	_, parts := factorParts(t)
	limit := big.NewInt(1000000000)
	return !slices.ContainsFunc(t.Turns, func(n int64) bool { return n < -16 || n > 16 }) &&
		!slices.ContainsFunc(parts, func(part *big.Int) bool { return part.CmpAbs(limit) > 0 })
}

func turnsMade(turns []int64) int64 {
	sum := int64(0)
	for _, n := range turns {
		sum += max(n, -n)
	}
	return sum
}

// digitsWritten returns the digits of a number as it is written in a base, the lowest one first, none for 0.
func digitsWritten(base, n int64) []int64 {
	var digits []int64
	for _, c := range strconv.FormatInt(n, int(base)) {
		d, _ := strconv.ParseInt(string(c), 16, 64)
		digits = append([]int64{d}, digits...)
	}
	if n == 0 {
		return nil
	}
	return digits
}

// turnsRuled returns what the rule of the document gives.
func turnsRuled(base, n int64) []int64 {
	var turns []int64
	for n != 0 {
		d := n % base
		if 2*d < base || 2*d == base && 2*(n/base%base) < base-1 {
			turns = append(turns, d)
			n = n / base
		} else {
			turns = append(turns, -(base - d))
			n = n/base + 1
		}
	}
	return turns
}

// leastOf returns the least number of turns for a factor. It goes from the highest digit downwards,
// and knows for the digits so far the least numbers of turns for what they are, and for one more.
func leastOf(base, n int64) int64 {
	same, more := int64(0), int64(1)
	for _, d := range slices.Backward(digitsWritten(base, n)) {
		same, more = min(d+same, base-d+more), min(d+1+same, base-d-1+more)
	}
	return same
}

// someFactors has small factors, limits, factors about powers and halves of them, repeated digits, and random ones.
func someFactors(random *rand.Rand, base int64) []int64 {
	list := []int64{greatestFactor - 1, greatestFactor}
	for n := range int64(300) {
		list = append(list, n)
	}
	for power := base; power <= greatestFactor; power *= base {
		for _, n := range []int64{power, power / 2, (power - 1) / (base - 1), (power - 1) / (base - 1) * (base / 2), (power - 1) / (base - 1) * (base/2 + 1), (power - 1) / (base - 1) * ((base - 1) / 2), power / 2 * (base + 1)} {
			for by := int64(-2); by <= 2; by++ {
				list = append(list, n+by)
			}
		}
	}
	for range 300 {
		list = append(list, random.Int63n(greatestFactor+1), random.Int63n(1+random.Int63n(greatestFactor+1)))
	}
	return slices.DeleteFunc(list, func(n int64) bool { return n < 0 || n > greatestFactor })
}

// someTurns has valid turns of many forms, the limits among them.
func someTurns() []impl.TurnDigits {
	list := []impl.TurnDigits{
		turnDigits(10), {Base: 2, Turns: []int64{}}, turnDigits(16), turnDigits(10, 1), turnDigits(10, -1), turnDigits(10, 16), turnDigits(10, -16), turnDigits(10, -2, 0, 1), turnDigits(10, 8, 9), turnDigits(2, -16, 16), turnDigits(2, 16, -8), turnDigits(2, -2, 1),
		turnDigits(10, 0, 0, 0, 0, 0, 0, 0, 0, 0, 1), turnDigits(10, 0, 0, 0, 0, 0, 0, 0, 0, 0, -1), turnDigits(10, 0, 0, 0, 0, 0, 0, 0, 0, 10), turnDigits(10, 10, 9, 9, 9, 9, 9, 9, 9, 9), turnDigits(10, 0, 0, 0, 0, 0, 0, 0, 0, -10, 2),
		turnDigits(10, -16, -16, -16, 5), turnDigits(3, 16, 16, 16, 16, -16), turnDigits(16, 16, 0, 16, 0, 16, 0, 3),
		turnDigits(2, slices.Repeat([]int64{-2, 1}, 20)...), turnDigits(2, append(slices.Repeat([]int64{-1}, 39), 1)...), turnDigits(16, append(slices.Repeat([]int64{-15}, 39), 1)...), turnDigits(2, slices.Repeat([]int64{-16, 8}, 20)...), turnDigits(2, slices.Repeat([]int64{16, -8}, 20)...), turnDigits(16, append([]int64{16}, slices.Repeat([]int64{-16, 1}, 19)...)...),
	}
	random := rand.New(rand.NewSource(131))
	for len(list) < 400 {
		list = append(list, randomTurns(random))
	}
	return list
}

// randomTurns returns valid turns whose parts stay small, so that there may be many places.
func randomTurns(random *rand.Rand) impl.TurnDigits {
	for {
		t := turnDigits(2 + random.Int63n(15))
		part := int64(0)
		for range random.Intn(41) {
			n := random.Int63n(33) - 16
			if near := -part * t.Base; random.Intn(3) > 0 && near >= -16 && near <= 16 { // the part comes back to 0
				n = near
			}
			part = part*t.Base + n
			if max(part, -part) > 1000000000 {
				break
			}
			t.Turns = append([]int64{n}, t.Turns...)
		}
		if isTurns(t) {
			return t
		}
	}
}

// noTurns has turns that are not valid, most of them for one reason only.
func noTurns() []impl.TurnDigits {
	list := []impl.TurnDigits{
		{}, turnDigits(1), turnDigits(0), turnDigits(17), turnDigits(-10), turnDigits(math.MaxInt64), turnDigits(math.MinInt64), turnDigits(1<<32 + 10), turnDigits(1, 1), turnDigits(17, 1), turnDigits(0, 1), turnDigits(-1, 1), turnDigits(math.MaxInt64, 1, 1), turnDigits(math.MinInt64, 1, 1),
		turnDigits(10, 0), turnDigits(10, 1, 0), turnDigits(10, 0, 0), turnDigits(10, -2, 0, 1, 0), turnDigits(10, 17), turnDigits(10, -17), turnDigits(10, 17, 1), turnDigits(10, -17, 1), turnDigits(10, 1, 17), turnDigits(10, 1, -17, 1), turnDigits(2, 17), turnDigits(16, 17),
		turnDigits(10, math.MaxInt64), turnDigits(10, math.MinInt64), turnDigits(10, math.MinInt64, 1), turnDigits(10, 1<<32, 1), turnDigits(10, 1, 1<<32+1), turnDigits(10, 1, math.MinInt64),
		turnDigits(10, 1, 0, 0, 0, 0, 0, 0, 0, 0, 1), turnDigits(10, -1, 0, 0, 0, 0, 0, 0, 0, 0, -1), turnDigits(10, 0, 0, 0, 0, 0, 0, 0, 0, 0, 2), turnDigits(10, 0, 0, 0, 0, 0, 0, 0, 0, 0, 0, 1), turnDigits(10, 11, 9, 9, 9, 9, 9, 9, 9, 9),
		// The factor is small enough, but not the part of it from a place on.
		turnDigits(10, -10, 1, 0, 0, 0, 0, 0, 0, 0, 0, 1), turnDigits(10, -10, 10, 0, 0, 0, 0, 0, 0, 0, 0, 1, -1, 1), turnDigits(2, append([]int64{-2, -1}, append(slices.Repeat([]int64{1}, 29), 1)...)...),
		// The factor would be 0 if sums beyond 64 bits were cut off.
		turnDigits(16, append(slices.Repeat([]int64{0}, 16), 1)...), turnDigits(2, append(slices.Repeat([]int64{0}, 39), 1)...), turnDigits(16, append(slices.Repeat([]int64{0}, 39), 1)...), turnDigits(2, append(slices.Repeat([]int64{0}, 39), 16)...),
		// More than 40 places.
		turnDigits(2, append(slices.Repeat([]int64{-1}, 40), 1)...), turnDigits(2, append([]int64{0}, slices.Repeat([]int64{-2, 1}, 20)...)...), turnDigits(2, append(slices.Repeat([]int64{-1}, 60), 1)...), turnDigits(10, make([]int64, 41)...), turnDigits(2, make([]int64, 5000)...), turnDigits(16, slices.Repeat([]int64{16, -1}, 21)...),
	}
	return list
}

func TestPromise1Turns(t *testing.T) {
	turns := slices.Concat(someTurns()[:80], noTurns())
	for i, a := range turns {
		purely(t, impl.ValidTurns, a)
		purely(t, impl.FactorOf, a)
		purely(t, impl.CountTurns, a)
		purely(t, impl.StrokesOf, a)
		purely(t, impl.TurnsText, a)
		for j, b := range turns {
			if (i+j)%7 == 0 || i == j {
				purely(t, impl.SameTurns, a, b)
				purely(t, impl.AddTurns, a, b)
			}
		}
	}
	for _, base := range oddNumbers {
		for _, factor := range append([]int64{greatestFactor, greatestFactor + 1, impl.MaxFactor}, oddNumbers...) {
			purely(t, impl.PlainTurns, base, factor)
			purely(t, impl.FewestTurns, base, factor)
			purely(t, impl.LowerBound, base, factor)
		}
	}
	for _, n := range oddNumbers {
		purely(t, impl.TurnsText, turnDigits(n, 1))
		purely(t, impl.TurnsText, turnDigits(10, n, 1))
		purely(t, impl.StrokesOf, turnDigits(10, n, n))
	}
}

func TestConstantsOfTurns(t *testing.T) {
	isResult(t, "MaxFactor", all(int64(impl.MaxFactor)), int64(1000000000))
	isResult(t, "the greatest factor", all(int64(impl.MaxFactor/impl.MaxBase)), int64(greatestFactor))
}

func TestValidTurns(t *testing.T) {
	for _, x := range someTurns() {
		if !isTurns(x) || !impl.ValidTurns(x) {
			t.Errorf("%v is valid", x)
		}
	}
	for _, x := range noTurns() {
		if isTurns(x) || impl.ValidTurns(x) {
			t.Errorf("%v is not valid", x)
		}
	}
}

// TestTurnsAboutTheLimits has turns whose factor, or a part of it, is about MaxFactor.
func TestTurnsAboutTheLimits(t *testing.T) {
	random := rand.New(rand.NewSource(132))
	valid := 0
	for base := int64(2); base <= 16; base++ {
		for _, limit := range []int64{1000000000, 1000000000 / base, 1000000000 / base / base} {
			for by := int64(-20); by <= 20; by++ {
				for _, below := range [][]int64{nil, {0}, {base - 1}, {-base}, {-16}, {16, 1}, {random.Int63n(33) - 16, random.Int63n(33) - 16}} {
					x := turnDigits(base, append(slices.Clone(below), digitsWritten(base, limit+by)...)...)
					y := turnDigits(base)
					for _, n := range x.Turns {
						y.Turns = append(y.Turns, -n)
					}
					want := isTurns(x)
					isResult(t, fmt.Sprint(x), all(impl.ValidTurns(x), impl.ValidTurns(y)), want, want)
					if want {
						valid++
					}
				}
			}
		}
	}
	if valid < 500 || valid > 10000 {
		t.Errorf("%d turns are valid", valid)
	}
}

func TestNumbersOfPlacesAndTurns(t *testing.T) {
	for n := int64(-20); n <= 20; n++ {
		for base := int64(-1); base <= 18; base++ {
			for _, x := range []impl.TurnDigits{turnDigits(base, n), turnDigits(base, n, 1), turnDigits(base, 1, n), turnDigits(base, 0, n, -1)} {
				isResult(t, fmt.Sprint(x), all(impl.ValidTurns(x)), isTurns(x))
			}
		}
	}
	for places := range 60 {
		x := turnDigits(3, slices.Repeat([]int64{-2}, places)...)
		x.Turns = append(x.Turns, 1) // all parts are 1
		isResult(t, fmt.Sprint(x), all(impl.ValidTurns(x)), places < 40)
	}
}

func TestInvalidTurnsAreRejected(t *testing.T) {
	invalid := int64(impl.ErrInvalid)
	good := turnDigits(10, -2, 0, 1)
	for _, bad := range noTurns() {
		what := fmt.Sprint(bad)
		isResult(t, what, purely(t, impl.FactorOf, bad), int64(0), invalid)
		isResult(t, what, purely(t, impl.CountTurns, bad), int64(0), invalid)
		isResult(t, what, purely(t, impl.StrokesOf, bad), []int64(nil), invalid)
		isResult(t, what, purely(t, impl.TurnsText, bad), "")
		for _, other := range []impl.TurnDigits{good, turnDigits(8), turnDigits(10, 16), bad} { // also before ErrState and ErrFull
			isResult(t, what, purely(t, impl.AddTurns, bad, other), impl.TurnDigits{}, invalid)
			isResult(t, what, purely(t, impl.AddTurns, other, bad), impl.TurnDigits{}, invalid)
		}
	}
}

func TestSameTurns(t *testing.T) {
	list := []impl.TurnDigits{
		{}, turnDigits(10), turnDigits(8), turnDigits(10, 1), turnDigits(10, -1), turnDigits(10, 0), turnDigits(10, 0, 0), turnDigits(10, 1, 2), turnDigits(10, 2, 1), turnDigits(10, 1, 2, 0), turnDigits(8, 1, 2), turnDigits(-1, 1, 2), turnDigits(0, 1, 2), turnDigits(10, math.MinInt64), turnDigits(10, math.MaxInt64), turnDigits(10, 1<<32+1),
	}
	for i, a := range list {
		for j := range list {
			b := turnDigits(list[j].Base, append(slices.Clone(list[j].Turns), 1, 2, 3)[:len(list[j].Turns)]...)
			isResult(t, fmt.Sprint(i, j), purely(t, impl.SameTurns, a, b), i == j)
		}
	}
	if !impl.SameTurns(turnDigits(10), impl.TurnDigits{Base: 10, Turns: []int64{}}) || !impl.SameTurns(impl.TurnDigits{Turns: []int64{}}, impl.TurnDigits{}) {
		t.Error("no turns and empty turns are the same")
	}
}

func TestPlainAndFewestTurns(t *testing.T) {
	for _, c := range []struct {
		base, factor  int64
		plain, fewest string
	}{
		{10, 0, "0", "0"}, {10, 1, "+1", "+1"}, {10, 4, "+4", "+4"}, {10, 5, "+5", "+5"}, {10, 6, "+6", "+1-4"}, {10, 9, "+9", "+1-1"}, {10, 10, "+1+0", "+1+0"}, {10, 98, "+9+8", "+1+0-2"}, {10, 99, "+9+9", "+1+0-1"},
		// Half the base: the next digit tells the direction.
		{10, 15, "+1+5", "+1+5"}, {10, 35, "+3+5", "+3+5"}, {10, 45, "+4+5", "+4+5"}, {10, 55, "+5+5", "+1-4-5"}, {10, 65, "+6+5", "+1-3-5"}, {10, 95, "+9+5", "+1+0-5"}, {10, 145, "+1+4+5", "+1+4+5"}, {10, 155, "+1+5+5", "+2-4-5"}, {10, 445, "+4+4+5", "+4+4+5"},
		{10, 545, "+5+4+5", "+5+4+5"}, {10, 555, "+5+5+5", "+1-4-4-5"}, {10, 505, "+5+0+5", "+5+0+5"}, {10, 550, "+5+5+0", "+1-4-5+0"}, {10, 50, "+5+0", "+5+0"}, {10, 5050, "+5+0+5+0", "+5+0+5+0"}, {10, 454, "+4+5+4", "+4+5+4"}, {10, 456, "+4+5+6", "+5-4-4"}, {10, 446, "+4+4+6", "+4+5-4"},
		{2, 1, "+1", "+1"}, {2, 2, "+1+0", "+1+0"}, {2, 3, "+1+1", "+1+0-1"}, {2, 4, "+1+0+0", "+1+0+0"}, {2, 5, "+1+0+1", "+1+0+1"}, {2, 6, "+1+1+0", "+1+0-1+0"}, {2, 7, "+1+1+1", "+1+0+0-1"}, {2, 11, "+1+0+1+1", "+1+0-1+0-1"}, {2, 13, "+1+1+0+1", "+1+0-1+0+1"},
		{3, 1, "+1", "+1"}, {3, 2, "+2", "+1-1"}, {3, 4, "+1+1", "+1+1"}, {3, 5, "+1+2", "+1-1-1"}, {3, 8, "+2+2", "+1+0-1"}, {3, 7, "+2+1", "+1-1+1"}, {5, 2, "+2", "+2"}, {5, 3, "+3", "+1-2"}, {5, 12, "+2+2", "+2+2"}, {5, 13, "+2+3", "+1-2-2"},
		{4, 2, "+2", "+2"}, {4, 3, "+3", "+1-1"}, {4, 6, "+1+2", "+1+2"}, {4, 10, "+2+2", "+1-1-2"}, {4, 9, "+2+1", "+2+1"}, {4, 11, "+2+3", "+1-1-1"},
		{16, 8, "+8", "+8"}, {16, 9, "+9", "+1-7"}, {16, 15, "+15", "+1-1"}, {16, 120, "+7+8", "+7+8"}, {16, 136, "+8+8", "+1-7-8"}, {16, 255, "+15+15", "+1+0-1"}, {9, 4, "+4", "+4"}, {9, 5, "+5", "+1-4"}, {9, 40, "+4+4", "+4+4"}, {9, 41, "+4+5", "+1-4-4"},
		{10, greatestFactor, "+6+2+5+0+0+0+0+0", "+1-4+2+5+0+0+0+0+0"}, {16, greatestFactor, "+3+11+9+10+12+10+0", "+4-4-6-5-3-6+0"},
	} {
		what := fmt.Sprint(c.factor, " in base ", c.base)
		long, code := impl.PlainTurns(c.base, c.factor)
		isResult(t, what, all(impl.TurnsText(long), code), c.plain, int64(impl.OK))
		short, code := impl.FewestTurns(c.base, c.factor)
		isResult(t, what, all(impl.TurnsText(short), code), c.fewest, int64(impl.OK))
	}
}

func TestTurnsOfOtherFactorsAreRejected(t *testing.T) {
	outside := int64(impl.ErrRange)
	check := func(base, factor int64) {
		t.Helper()
		what := fmt.Sprint(base, factor)
		isResult(t, what, purely(t, impl.PlainTurns, base, factor), impl.TurnDigits{}, outside)
		isResult(t, what, purely(t, impl.FewestTurns, base, factor), impl.TurnDigits{}, outside)
		isResult(t, what, purely(t, impl.LowerBound, base, factor), int64(0), outside)
	}
	for _, base := range []int64{0, 1, 17, 18, -1, -2, -10, 256 + 10, 1<<32 + 10, math.MaxInt64, math.MinInt64} {
		for _, factor := range []int64{0, 1, 98, greatestFactor, greatestFactor + 1, -1} {
			check(base, factor)
		}
	}
	for base := int64(2); base <= 16; base++ {
		for _, factor := range []int64{-1, -2, -98, greatestFactor + 1, impl.MaxFactor, impl.MaxFactor + 1, 1<<32 + 5, math.MaxInt64, math.MinInt64, math.MinInt64 + 1} {
			check(base, factor)
		}
	}
}

// TestTurnsOfManyFactors checks the turns of all bases against the rules of the document.
func TestTurnsOfManyFactors(t *testing.T) {
	random := rand.New(rand.NewSource(133))
	for base := int64(2); base <= 16; base++ {
		for _, factor := range someFactors(random, base) {
			what := fmt.Sprint(factor, " in base ", base)
			long, longCode := impl.PlainTurns(base, factor)
			short, shortCode := impl.FewestTurns(base, factor)
			areTurns(t, what, all(long, longCode), turnDigits(base, digitsWritten(base, factor)...), impl.OK)
			areTurns(t, what, all(short, shortCode), turnDigits(base, turnsRuled(base, factor)...), impl.OK)
			for _, x := range []impl.TurnDigits{long, short} {
				isResult(t, what, all(impl.ValidTurns(x)), true)
				isResult(t, what, all(impl.FactorOf(x)), factor, int64(impl.OK))
				isResult(t, what, all(impl.CountTurns(x)), turnsMade(x.Turns), int64(impl.OK))
			}
			isResult(t, what, all(impl.LowerBound(base, factor)), turnsMade(short.Turns), int64(impl.OK))
			isResult(t, what, all(impl.LowerBound(base, factor)), leastOf(base, factor), int64(impl.OK))
		}
	}
}

func TestLowerBound(t *testing.T) {
	for _, c := range [][3]int64{
		{10, 0, 0}, {10, 1, 1}, {10, 2, 2}, {10, 5, 5}, {10, 6, 5}, {10, 9, 2}, {10, 10, 1}, {10, 98, 3}, {10, 55, 10}, {10, 555, 14}, {2, 0, 0}, {2, 1, 1}, {2, 2, 1}, {2, 3, 2}, {2, 4, 1}, {2, 7, 2}, {2, 11, 3}, {2, 21, 3},
		{3, 1, 1}, {3, 2, 2}, {3, 3, 1}, {3, 4, 2}, {3, 5, 3}, {4, 2, 2}, {4, 3, 2}, {16, 2, 2}, {16, 8, 8}, {16, 9, 8}, {2, 1 << 25, 1}, {2, 1<<25 - 1, 2}, {2, 22369621, 13}, {2, 44739242, 13}, {10, 55555555, 34}, {10, 44444444, 32},
	} {
		isResult(t, fmt.Sprint(c), purely(t, impl.LowerBound, c[0], c[1]), c[2], int64(impl.OK))
	}
}

// leastByTurning returns how many turns lead at least from 0 to each number up to most, if it is never farther away than reach.
func leastByTurning(base, most, reach int64) []int64 {
	made := map[int64]int64{0: 0}
	next := []int64{0}
	for len(next) > 0 {
		n := next[0]
		next = next[1:]
		for power := int64(1); power <= reach; power *= base {
			for _, to := range []int64{n + power, n - power} {
				if _, known := made[to]; !known && max(to, -to) <= reach {
					made[to] = made[n] + 1
					next = append(next, to)
				}
			}
		}
	}
	var list []int64
	for n := range most + 1 {
		list = append(list, made[n])
	}
	return list
}

// TestPromise13NoTurnsAreFewer looks for the fewest turns by turning in all ways.
func TestPromise13NoTurnsAreFewer(t *testing.T) {
	for base := int64(2); base <= 16; base++ {
		const most = 1200
		for n, least := range leastByTurning(base, most, most*(base+2)) {
			what := fmt.Sprint(n, " in base ", base)
			x, _ := impl.FewestTurns(base, int64(n))
			isResult(t, what, all(impl.FactorOf(x)), int64(n), int64(impl.OK))
			isResult(t, what, all(impl.CountTurns(x)), least, int64(impl.OK))
			isResult(t, what, all(impl.LowerBound(base, int64(n))), least, int64(impl.OK))
		}
	}
}

// TestPromise13OfAnyTurns compares valid turns with the told ones for their factor.
func TestPromise13OfAnyTurns(t *testing.T) {
	random := rand.New(rand.NewSource(134))
	compared, equal := 0, 0
	for range 30000 {
		x := randomTurns(random)
		if random.Intn(2) == 0 { // few turns, at any places
			clear(x.Turns)
			for range random.Intn(6) {
				if k := random.Intn(9); k < len(x.Turns) {
					x.Turns[k] += 2*random.Int63n(2) - 1
				}
			}
			for len(x.Turns) > 0 && x.Turns[len(x.Turns)-1] == 0 {
				x.Turns = x.Turns[:len(x.Turns)-1]
			}
		}
		factor, code := impl.FactorOf(x)
		if code != impl.OK || factor < 0 || factor > greatestFactor {
			continue
		}
		compared++
		few, _ := impl.FewestTurns(x.Base, factor)
		least, _ := impl.CountTurns(few)
		bound, _ := impl.LowerBound(x.Base, factor)
		made, _ := impl.CountTurns(x)
		if made < least || bound != least {
			t.Errorf("%v has %d turns, but %d are told, with the bound %d", x, made, least, bound)
		}
		if made == least {
			equal++
		}
	}
	if compared < 5000 || equal < 1000 || equal == compared {
		t.Errorf("%d turns compared, %d have the least number", compared, equal)
	}
}

func TestFactorsAndNumbersOfTurns(t *testing.T) {
	for _, x := range someTurns() {
		factor, _ := factorParts(x)
		isResult(t, fmt.Sprint(x), all(impl.FactorOf(x)), factor.Int64(), int64(impl.OK))
		isResult(t, fmt.Sprint(x), all(impl.CountTurns(x)), turnsMade(x.Turns), int64(impl.OK))
	}
	for _, c := range []struct {
		turns         impl.TurnDigits
		factor, count int64
		text          string
	}{
		{turnDigits(10), 0, 0, "0"}, {turnDigits(10, -2, 0, 1), 98, 3, "+1+0-2"}, {turnDigits(10, 8, 9), 98, 17, "+9+8"}, {turnDigits(10, -1), -1, 1, "-1"}, {turnDigits(10, 16), 16, 16, "+16"}, {turnDigits(2, 16, -16), -16, 32, "-16+16"},
		{turnDigits(16, 0, 0, 0, 1), 4096, 1, "+1+0+0+0"}, {turnDigits(3, 1, -3, 1), 1, 5, "+1-3+1"}, {turnDigits(10, 0, -10, 1), 0, 11, "+1-10+0"}, {turnDigits(10, 0, 0, 0, 0, 0, 0, 0, 0, 0, -1), -1000000000, 1, "-1+0+0+0+0+0+0+0+0+0"},
		{turnDigits(16, append(slices.Repeat([]int64{-15}, 39), 1)...), 1, 586, "+1" + strings.Repeat("-15", 39)},
	} {
		got := slices.Concat(purely(t, impl.FactorOf, c.turns), purely(t, impl.CountTurns, c.turns), purely(t, impl.TurnsText, c.turns))
		isResult(t, c.text, got, c.factor, int64(impl.OK), c.count, int64(impl.OK), c.text)
	}
}

func TestTurnsText(t *testing.T) {
	for _, x := range someTurns() {
		want := ""
		for _, n := range x.Turns {
			want = fmt.Sprintf("%+d", n) + want
		}
		if len(x.Turns) == 0 {
			want = "0"
		}
		isResult(t, fmt.Sprint(x), all(impl.TurnsText(x)), want)
	}
}

// strokesForTurns returns the strokes of turns, without a limit.
func strokesForTurns(x impl.TurnDigits) []int64 {
	var list, down []int64
	for k, n := range x.Turns {
		kind := int64(impl.StrokeAdd)
		if n < 0 {
			kind = impl.StrokeSub
		}
		down = append(slices.Repeat([]int64{kind}, int(max(n, -n))), down...)
		if k < len(x.Turns)-1 {
			list = append(list, impl.StrokeRight)
			down = append([]int64{impl.StrokeLeft}, down...)
		}
	}
	return append(list, down...)
}

func TestStrokesOf(t *testing.T) {
	for _, c := range []struct {
		turns impl.TurnDigits
		want  string
	}{
		{turnDigits(10), ""}, {turnDigits(10, 3), "add add add"}, {turnDigits(10, -2), "sub sub"}, {turnDigits(10, -2, 0, 1), "right right add left left sub sub"}, {turnDigits(10, 1, -1), "right sub left add"}, {turnDigits(10, 0, 2), "right add add left"},
		{turnDigits(2, 1, 0, -1, 2), "right right right add add left sub left left add"},
	} {
		got := purely(t, impl.StrokesOf, c.turns)
		var names []string
		for _, kind := range got[0].([]int64) {
			names = append(names, impl.StrokeName(kind))
		}
		isResult(t, c.want, all(strings.Join(names, " "), got[1]), c.want, int64(impl.OK))
	}
	full := 0
	for _, x := range someTurns() {
		list, code := impl.StrokesOf(x)
		want := strokesForTurns(x)
		if len(want) > 300 {
			full++
			isResult(t, fmt.Sprint(x), all(list, code), []int64(nil), int64(impl.ErrFull))
		} else {
			isResult(t, fmt.Sprint(x), all(append([]int64(nil), list...), code), want, int64(impl.OK))
		}
	}
	if full < 3 {
		t.Errorf("only %d turns have too many strokes", full)
	}
}

// turnsWithStrokes returns turns with a number of strokes: some places without turns, and above them pairs of places of which the lower one undoes the upper one.
// The turns are at the highest places, or at the lowest ones, as far as possible.
func turnsWithStrokes(strokes int64, empty, pairs int, high bool) impl.TurnDigits {
	left := strokes - int64(2*(empty+2*pairs-1))
	x := turnDigits(2, make([]int64, empty+2*pairs)...)
	x.Turns[empty] = -(left % 3)
	left /= 3
	order := make([]int, pairs)
	for i := range order {
		order[i] = i
	}
	if high {
		slices.Reverse(order)
	}
	x.Turns[len(x.Turns)-1], x.Turns[len(x.Turns)-2] = 1, x.Turns[len(x.Turns)-2]-2
	left--
	for _, pair := range order {
		low := empty + 2*pair
		by := min(left, 7-x.Turns[low+1])
		x.Turns[low+1] += by
		x.Turns[low] -= 2 * by
		left -= by
	}
	return x
}

// TestMostStrokesOfTurns has turns that reach the limit exactly, or go beyond it by few; the last strokes are turns, or moves of the carriage.
func TestMostStrokesOfTurns(t *testing.T) {
	for strokes := int64(290); strokes <= 310; strokes++ {
		for _, empty := range []int{0, 1, 2, 3, 4, 8, 10} {
			for _, pairs := range []int{13, 14, 15} {
				for _, high := range []bool{false, true} {
					x := turnsWithStrokes(strokes, empty, pairs, high)
					want := strokesForTurns(x)
					if !isTurns(x) || int64(len(want)) != strokes {
						t.Fatalf("%v has %d strokes, not %d", x, len(want), strokes)
					}
					if strokes > 300 {
						isResult(t, fmt.Sprint(x), purely(t, impl.StrokesOf, x), []int64(nil), int64(impl.ErrFull))
					} else {
						isResult(t, fmt.Sprint(x), purely(t, impl.StrokesOf, x), want, int64(impl.OK))
					}
				}
			}
		}
	}
}

// TestStrokesOfTurnsAreMade makes the strokes on a machine, which multiplies its Setting by the factor.
func TestStrokesOfTurnsAreMade(t *testing.T) {
	random := rand.New(rand.NewSource(135))
	made := 0
	for range 3000 {
		x := randomTurns(random)
		places := int64(max(len(x.Turns), 1))
		m, code := impl.NewMachine(x.Base, 1, places, places)
		list, full := impl.StrokesOf(x)
		if code != impl.OK || full != impl.OK {
			continue
		}
		made++
		m, _ = impl.SetValue(m, x.Base-1)
		for _, kind := range list {
			m, _, _ = impl.DoStroke(m, kind)
		}
		s := machineShapeOf(m)
		factor, _ := factorParts(x)
		want := s.with(big.NewInt(x.Base-1), new(big.Int).Mul(factor, big.NewInt(x.Base-1)), factor, 0)
		isResult(t, fmt.Sprint(x), all(m), want)
	}
	if made < 300 {
		t.Errorf("only %d turns have strokes", made)
	}
}

func TestAddTurns(t *testing.T) {
	for _, c := range []struct {
		a, b, want impl.TurnDigits
		code       int64
	}{
		{turnDigits(10), turnDigits(10), turnDigits(10), impl.OK}, {turnDigits(10, 1), turnDigits(10), turnDigits(10, 1), impl.OK}, {turnDigits(10, 1), turnDigits(10, -1), turnDigits(10), impl.OK}, {turnDigits(10, 1, 2, 3), turnDigits(10, 4, 5), turnDigits(10, 5, 7, 3), impl.OK},
		{turnDigits(10, 1, 2, 3), turnDigits(10, 4, 5, -3), turnDigits(10, 5, 7), impl.OK}, {turnDigits(10, 1, 2, 3), turnDigits(10, 4, -2, -3), turnDigits(10, 5), impl.OK}, {turnDigits(10, 1, 2, 3), turnDigits(10, -1, -2, -3), turnDigits(10), impl.OK}, {turnDigits(10, 1, 2, 3), turnDigits(10, -1, -2), turnDigits(10, 0, 0, 3), impl.OK},
		{turnDigits(10, 9), turnDigits(10, 7), turnDigits(10, 16), impl.OK}, {turnDigits(10, 9), turnDigits(10, 8), impl.TurnDigits{}, impl.ErrFull}, {turnDigits(10, -9), turnDigits(10, -7), turnDigits(10, -16), impl.OK}, {turnDigits(10, -9), turnDigits(10, -8), impl.TurnDigits{}, impl.ErrFull}, {turnDigits(10, 16, 1), turnDigits(10, 1), impl.TurnDigits{}, impl.ErrFull},
		{turnDigits(10, 1), turnDigits(8, 1), impl.TurnDigits{}, impl.ErrState}, {turnDigits(10), turnDigits(8), impl.TurnDigits{}, impl.ErrState}, {turnDigits(10, 16), turnDigits(8, 16), impl.TurnDigits{}, impl.ErrState}, // before ErrFull
		{turnDigits(10, 0, 0, 0, 0, 0, 0, 0, 0, 0, 1), turnDigits(10, 1), impl.TurnDigits{}, impl.ErrFull}, {turnDigits(10, 0, 0, 0, 0, 0, 0, 0, 0, 0, 1), turnDigits(10, -1), turnDigits(10, -1, 0, 0, 0, 0, 0, 0, 0, 0, 1), impl.OK},
		{turnDigits(10, 0, 0, 0, 0, 0, 0, 0, 0, 5), turnDigits(10, 0, 0, 0, 0, 0, 0, 0, 0, 5), turnDigits(10, 0, 0, 0, 0, 0, 0, 0, 0, 10), impl.OK}, {turnDigits(10, 0, 0, 0, 0, 0, 0, 0, 0, 5), turnDigits(10, 0, 0, 0, 0, 0, 0, 0, 0, 6), impl.TurnDigits{}, impl.ErrFull},
		{turnDigits(10, 0, 0, 0, 0, 0, 0, 0, 0, -5), turnDigits(10, 0, 0, 0, 0, 0, 0, 0, 0, -6), impl.TurnDigits{}, impl.ErrFull},
		// The sum of both has a part that is too great only from some place on.
		{turnDigits(10, 0, -10, 1, 0, 0, 0, 0, 0, 0, 0, 1), turnDigits(10, 0, 0, 0, 0, 0, 0, 0, 0, 0, 0, 0), impl.TurnDigits{}, impl.ErrInvalid}, {turnDigits(10, -10, 0, 0, 0, 0, 0, 0, 0, 0, 1), turnDigits(10, 0, 1), turnDigits(10, -10, 1, 0, 0, 0, 0, 0, 0, 0, 1), impl.OK},
		{turnDigits(2, append(slices.Repeat([]int64{-1}, 39), 1)...), turnDigits(2, append(slices.Repeat([]int64{1}, 28), 1)...), turnDigits(2, append(make([]int64, 29), append(slices.Repeat([]int64{-1}, 10), 1)...)...), impl.OK},
		{turnDigits(2, append(slices.Repeat([]int64{-1}, 39), 1)...), turnDigits(2, append(make([]int64, 29), 1)...), turnDigits(2, append(append(slices.Repeat([]int64{-1}, 29), 0), append(slices.Repeat([]int64{-1}, 9), 1)...)...), impl.OK},
	} {
		for _, pair := range [][2]impl.TurnDigits{{c.a, c.b}, {c.b, c.a}} {
			areTurns(t, fmt.Sprint(pair), purely(t, impl.AddTurns, pair[0], pair[1]), c.want, c.code)
		}
	}
}

func TestAddManyTurns(t *testing.T) {
	random := rand.New(rand.NewSource(136))
	codes := map[int64]int{}
	list := someTurns()
	for range 20000 {
		a, b := list[random.Intn(len(list))], list[random.Intn(len(list))]
		if random.Intn(2) == 0 { // few turns more or less
			b = turnDigits(a.Base, append(make([]int64, random.Intn(6)), 2*random.Int63n(2)-1)...)
			if random.Intn(4) == 0 { // none are left, or those at the lowest places
				b = turnDigits(a.Base)
				for _, n := range a.Turns {
					b.Turns = append(b.Turns, -n)
				}
				if len(b.Turns) > 1 && b.Turns[0] != 0 {
					b.Turns[0] += 2*random.Int63n(2) - 1
				}
			}
		}
		if !isTurns(b) {
			continue
		}
		sum := make([]int64, 40)
		for k := range sum {
			if k < len(a.Turns) {
				sum[k] += a.Turns[k]
			}
			if k < len(b.Turns) {
				sum[k] += b.Turns[k]
			}
		}
		for len(sum) > 0 && sum[len(sum)-1] == 0 {
			sum = sum[:len(sum)-1]
		}
		want, code := turnDigits(a.Base, sum...), int64(impl.OK)
		switch {
		case a.Base != b.Base:
			want, code = impl.TurnDigits{}, impl.ErrState
		case !isTurns(want):
			want, code = impl.TurnDigits{}, impl.ErrFull
		}
		codes[code]++
		got, gotCode := impl.AddTurns(a, b)
		areTurns(t, fmt.Sprint(a, b), all(got, gotCode), want, code)
	}
	if codes[impl.OK] < 1000 || codes[impl.ErrState] < 1000 || codes[impl.ErrFull] < 100 {
		t.Errorf("codes %v", codes)
	}
}

func TestExampleOfTurns(t *testing.T) {
	few, code := impl.FewestTurns(10, 98)
	isResult(t, "98", all(impl.TurnsText(few), code), "+1+0-2", int64(impl.OK))
	long, _ := impl.PlainTurns(10, 98)
	isResult(t, "98", slices.Concat(all(impl.CountTurns(long)), all(impl.CountTurns(few))), int64(17), int64(impl.OK), int64(3), int64(impl.OK))
}
