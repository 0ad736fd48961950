package tests

import (
	"math"
	"math/rand"
	"reflect"
	"slices"
	"strings"
	"testing"

	"loop.example/g00930/impl"
)

// abacus returns an abacus; its rods are told as up, down, up, down and so on, the lowest one first.
func abacus(upper, lower, worth int64, beads ...int64) impl.Abacus {
	a := impl.Abacus{Upper: upper, Lower: lower, Worth: worth}
	for i := 0; i+1 < len(beads); i += 2 {
		a.Rods = append(a.Rods, impl.Rod{Up: beads[i], Down: beads[i+1]})
	}
	return a
}

// soroban returns an abacus with one upper bead worth 5 and four lower ones, which shows digits, the lowest one first.
func soroban(digits ...int64) impl.Abacus {
	a := abacus(1, 4, 5)
	for _, d := range digits {
		a.Rods = append(a.Rods, impl.Rod{Up: d / 5, Down: d % 5})
	}
	return a
}

func move(rod, up, down int64) impl.BeadMove {
	return impl.BeadMove{Rod: rod, Up: up, Down: down}
}

// abaciWithoutRods has one for each valid choice of beads and their worth.
func abaciWithoutRods() []impl.Abacus {
	var list []impl.Abacus
	for upper := int64(0); upper <= 4; upper++ {
		for lower := int64(1); lower <= 12; lower++ {
			for worth := int64(1); worth <= 10; worth++ {
				if lower+1 >= worth && upper*worth+lower >= 9 {
					list = append(list, abacus(upper, lower, worth))
				}
			}
		}
	}
	return list
}

// plainly is the plain setting of a digit, found by counting: as many upper beads as can be used, then lower ones.
func plainly(a impl.Abacus, digit int64) impl.Rod {
	var r impl.Rod
	for r.Up < a.Upper && digit >= a.Worth {
		digit -= a.Worth
		r.Up++
	}
	r.Down = digit
	return r
}

// setting returns the plain setting of a value on some rods, and whether they are enough.
func setting(a impl.Abacus, rods int, value int64) (impl.Abacus, bool) {
	a.Rods = nil
	for range rods {
		a.Rods = append(a.Rods, plainly(a, value%10))
		value /= 10
	}
	return a, value == 0
}

// shown is the value of an abacus, computed from the lowest rod on.
func shown(a impl.Abacus) int64 {
	value, weight := int64(0), int64(1)
	for _, r := range a.Rods {
		value += weight * (r.Up*a.Worth + r.Down)
		weight *= 10
	}
	return value
}

// randomSetting returns any valid setting of some rods with the beads of a.
func randomSetting(random *rand.Rand, a impl.Abacus, rods int) impl.Abacus {
	a.Rods = nil
	for range rods {
		a.Rods = append(a.Rods, impl.Rod{Up: random.Int63n(a.Upper + 1), Down: random.Int63n(a.Lower + 1)})
	}
	return a
}

// validAbaci has the least, the greatest and other settings with few and with many rods, for all choices of beads.
func validAbaci() []impl.Abacus {
	random := rand.New(rand.NewSource(3))
	var list []impl.Abacus
	for _, a := range abaciWithoutRods() {
		for _, rods := range []int{1, 2, impl.MaxRods} {
			none, all := a, a
			none.Rods = make([]impl.Rod, rods)
			all.Rods = slices.Repeat([]impl.Rod{{Up: a.Upper, Down: a.Lower}}, rods)
			plain, _ := setting(a, rods, random.Int63n(int64(math.Pow10(rods))))
			list = append(list, none, all, plain, randomSetting(random, a, rods))
		}
	}
	return list
}

func invalidAbaci() []impl.Abacus {
	list := []impl.Abacus{
		{}, soroban(), {Upper: 1, Lower: 4, Worth: 5, Rods: []impl.Rod{}}, soroban(make([]int64, 11)...), soroban(make([]int64, 1000)...),
		abacus(-1, 12, 5, 0, 0), abacus(5, 4, 5, 0, 0), abacus(1, 0, 1, 0, 0), abacus(4, 0, 10, 0, 0), abacus(4, -1, 5, 0, 0), abacus(1, 13, 5, 0, 0),
		abacus(1, 9, 0, 0, 0), abacus(1, 12, -1, 0, 0), abacus(1, 12, 11, 0, 0),
		abacus(2, 3, 5, 0, 0), abacus(4, 8, 10, 0, 0), abacus(4, 1, 3, 0, 0), // Lower less than Worth - 1
		abacus(0, 8, 1, 0, 0), abacus(1, 3, 5, 0, 0), abacus(2, 4, 2, 0, 0), abacus(4, 4, 1, 0, 0), abacus(1, 4, 4, 0, 0), // no 9
		soroban(10), soroban(-1), soroban(0, 10), soroban(3, -6, 4),
		abacus(1, 4, 5, 2, 0), abacus(1, 4, 5, 0, 5), abacus(1, 4, 5, -1, 0), abacus(1, 4, 5, 0, -1), abacus(1, 4, 5, 1, -1), abacus(0, 9, 1, 1, 0),
		abacus(1, 4, 5, 0, 0, 2, 0), abacus(1, 4, 5, 0, 0, 0, 5, 0, 0),
	}
	for _, n := range []int64{math.MaxInt64, math.MinInt64, math.MinInt64 + 1, math.MaxInt64/5 + 1, 1 << 32} {
		list = append(list, abacus(n, 4, 5, 0, 0), abacus(1, n, 5, 0, 0), abacus(1, 4, n, 0, 0), abacus(n, n, n, n, n), abacus(1, 4, 5, n, 0), abacus(1, 4, 5, 0, n))
	}
	return list
}

var oddMoves = []impl.BeadMove{
	{}, move(0, 1, 0), move(0, -1, 0), move(0, 0, 1), move(0, 0, -1), move(1, 1, -4), move(1, -1, 4), move(9, 4, 12), move(9, -4, -12), move(10, 0, 0), move(-1, 0, 0),
	move(0, 4, 12), move(0, -4, -12), move(0, 5, 0), move(0, -5, 0), move(0, 0, 13), move(0, 0, -13), move(1<<32, 0, 0),
	move(math.MaxInt64, math.MaxInt64, math.MaxInt64), move(math.MinInt64, math.MinInt64, math.MinInt64),
	move(0, math.MaxInt64, 0), move(0, math.MinInt64, 0), move(0, 0, math.MaxInt64), move(0, 0, math.MinInt64),
}

func TestPromise1Abaci(t *testing.T) {
	for _, a := range append(validAbaci(), invalidAbaci()...) {
		purely(t, impl.ValidAbacus, a)
		purely(t, impl.AbacusValue, a)
		purely(t, impl.IsPlain, a)
		purely(t, impl.PlainAbacus, a)
		purely(t, impl.AbacusPicture, a)
		purely(t, impl.ReplayBeads, a, []impl.BeadMove(nil))
		purely(t, impl.ReplayBeads, a, []impl.BeadMove{move(0, 0, 1), move(0, 0, -1), move(0, 0, 1), move(0, 0, 13)})
	}
	some := append(invalidAbaci(), soroban(7), soroban(7, 9), soroban(make([]int64, 10)...), soroban(slices.Repeat([]int64{9}, 10)...),
		abacus(2, 5, 5, 2, 4, 0, 0), abacus(4, 12, 10, 4, 12), abacus(0, 9, 1, 0, 9, 0, 8))
	for _, a := range some {
		for _, value := range oddNumbers {
			purely(t, impl.SetAbacus, a, value)
			purely(t, impl.AddOnAbacus, a, value)
		}
		for _, m := range oddMoves {
			purely(t, impl.MoveBeads, a, m)
			purely(t, impl.ReplayBeads, a, []impl.BeadMove{m, m})
		}
		for _, b := range some {
			purely(t, impl.SameAbacus, a, b)
			purely(t, impl.BeadsBetween, a, b)
		}
	}
}

func TestConstantsOfAbaci(t *testing.T) {
	isResult(t, "limit", all(int64(impl.MaxRods)), int64(10))
}

// TestValidAbacusForAllBeads pins the limits of the numbers of beads and of their worth, one rod with no bead at the bar.
func TestValidAbacusForAllBeads(t *testing.T) {
	good := map[[3]int64]bool{}
	for _, a := range abaciWithoutRods() {
		good[[3]int64{a.Upper, a.Lower, a.Worth}] = true
	}
	for upper := int64(-2); upper <= 6; upper++ {
		for lower := int64(-2); lower <= 14; lower++ {
			for worth := int64(-2); worth <= 12; worth++ {
				if got, want := impl.ValidAbacus(abacus(upper, lower, worth, 0, 0)), good[[3]int64{upper, lower, worth}]; got != want {
					t.Errorf("%d upper beads worth %d and %d lower ones: valid is %v", upper, worth, lower, got)
				}
			}
		}
	}
}

func TestValidAbacus(t *testing.T) {
	for _, a := range append(validAbaci(), abacus(0, 9, 10, 0, 9), abacus(1, 8, 9, 1, 8), abacus(1, 4, 5, 1, 4), abacus(4, 5, 1, 4, 5), abacus(2, 5, 2, 0, 0)) {
		if !impl.ValidAbacus(a) {
			t.Errorf("%+v is valid", a)
		}
	}
	for _, a := range invalidAbaci() {
		if impl.ValidAbacus(a) {
			t.Errorf("%+v is not valid", a)
		}
		if impl.IsPlain(a) {
			t.Errorf("%+v is not valid, and so not plain", a)
		}
	}
	for rods := range 13 {
		if got := impl.ValidAbacus(soroban(make([]int64, rods)...)); got != (rods >= 1 && rods <= 10) {
			t.Errorf("%d rods: valid is %v", rods, got)
		}
	}
}

func TestInvalidAbaciAreRejected(t *testing.T) {
	good := soroban(7, 0)
	none, invalid := impl.Abacus{}, int64(impl.ErrInvalid)
	for _, bad := range invalidAbaci() {
		isResult(t, "value", purely(t, impl.AbacusValue, bad), int64(0), invalid)
		isResult(t, "plain setting", purely(t, impl.PlainAbacus, bad), none, invalid)
		isResult(t, "picture", purely(t, impl.AbacusPicture, bad), []string(nil), invalid)
		for _, value := range []int64{0, 1, -1, impl.MaxValue + 1} { // ErrInvalid comes before ErrRange
			isResult(t, "setting", purely(t, impl.SetAbacus, bad, value), none, invalid)
			isResult(t, "sum", purely(t, impl.AddOnAbacus, bad, value), none, []impl.BeadMove(nil), invalid)
		}
		for _, m := range []impl.BeadMove{{}, move(0, 0, 1), move(-1, 0, 0), move(0, 5, 13)} {
			isResult(t, "move", purely(t, impl.MoveBeads, bad, m), none, invalid)
			isResult(t, "moves", purely(t, impl.ReplayBeads, bad, []impl.BeadMove{m}), none, int64(0), invalid)
		}
		isResult(t, "no moves", purely(t, impl.ReplayBeads, bad, []impl.BeadMove(nil)), none, int64(0), invalid)
		for _, pair := range [][2]impl.Abacus{{bad, bad}, {bad, good}, {good, bad}} { // and before ErrState
			isResult(t, "beads between", purely(t, impl.BeadsBetween, pair[0], pair[1]), int64(0), invalid)
		}
	}
}

func TestSameAbacus(t *testing.T) {
	list := []impl.Abacus{
		soroban(7), soroban(7, 0), soroban(0, 7), soroban(2), abacus(1, 4, 5, 0, 7), abacus(2, 4, 5, 1, 2), abacus(1, 5, 5, 1, 2), abacus(1, 4, 4, 1, 2),
		{}, abacus(0, 0, 0, 0, 0), abacus(-1, 99, 7), abacus(1, 4, 5), abacus(1, 4, 5, math.MinInt64, 2),
	}
	for i, a := range list {
		for k, b := range list {
			copied := b
			copied.Rods = slices.Clone(b.Rods)
			if got := impl.SameAbacus(a, copied); got != (i == k) {
				t.Errorf("SameAbacus(%+v, %+v) is %v", a, b, got)
			}
		}
	}
	empty := impl.Abacus{Upper: 1, Lower: 4, Worth: 5, Rods: []impl.Rod{}}
	if !impl.SameAbacus(empty, soroban()) || !impl.SameAbacus(soroban(), empty) {
		t.Error("a nil slice and an empty one are not the same")
	}
}

func TestAbacusValue(t *testing.T) {
	for _, c := range []struct {
		a    impl.Abacus
		want int64
	}{
		{soroban(7), 7}, {soroban(7, 0, 1), 107}, {soroban(0, 0, 0), 0}, {soroban(slices.Repeat([]int64{9}, 10)...), 9999999999},
		{abacus(2, 5, 5, 2, 4, 0, 0), 14}, {abacus(2, 5, 5, 2, 5, 2, 5), 165}, {abacus(4, 12, 10, 4, 12), 52}, {abacus(0, 12, 1, 0, 12, 0, 12), 132},
		{abacus(4, 12, 10, slices.Repeat([]int64{4, 12}, 10)...), 57777777772}, // the greatest value
	} {
		got, code := impl.AbacusValue(c.a)
		isResult(t, "value", all(got, code), c.want, int64(impl.OK))
	}
	for _, a := range validAbaci() {
		got, code := impl.AbacusValue(a)
		isResult(t, "value", all(got, code), shown(a), int64(impl.OK))
	}
}

// TestIsPlainForAllRods holds each setting of a rod against the plain settings of the ten digits.
func TestIsPlainForAllRods(t *testing.T) {
	for _, a := range abaciWithoutRods() {
		plain := map[impl.Rod]bool{}
		for d := range int64(10) {
			plain[plainly(a, d)] = true
		}
		for up := int64(0); up <= a.Upper; up++ {
			for down := int64(0); down <= a.Lower; down++ {
				r := impl.Rod{Up: up, Down: down}
				for _, rods := range [][]impl.Rod{{r}, {{}, r}, {r, {}}, {{}, r, {}}} {
					a.Rods = rods
					if got := impl.IsPlain(a); got != plain[r] {
						t.Errorf("IsPlain(%+v) is %v", a, got)
					}
				}
			}
		}
	}
}

func TestIsPlain(t *testing.T) {
	for _, a := range []impl.Abacus{
		soroban(0), soroban(7, 0, 1), abacus(2, 5, 5, 1, 0), abacus(2, 5, 5, 1, 4), abacus(0, 9, 3, 0, 9), abacus(0, 9, 10, 0, 9),
		abacus(1, 6, 3, 1, 6), abacus(4, 5, 1, 4, 5), abacus(4, 5, 1, 4, 0), abacus(4, 2, 3, 3, 0), abacus(1, 9, 10, 0, 9), abacus(1, 8, 9, 1, 0),
	} {
		if !impl.IsPlain(a) {
			t.Errorf("%+v is plain", a)
		}
	}
	for _, a := range []impl.Abacus{
		abacus(2, 5, 5, 0, 5), abacus(2, 5, 5, 2, 4, 0, 0), abacus(1, 6, 3, 0, 3), abacus(4, 5, 1, 3, 1), abacus(1, 9, 9, 0, 9),
		// These follow the rule for Up and Down, but show no digit.
		abacus(2, 5, 5, 2, 0), abacus(4, 12, 10, 1, 0), abacus(1, 12, 5, 1, 5), abacus(0, 12, 1, 0, 10), abacus(4, 2, 3, 4, 2), abacus(4, 6, 1, 4, 6),
		abacus(2, 5, 5, 0, 0, 2, 0), abacus(2, 5, 5, 2, 0, 0, 0),
	} {
		if impl.IsPlain(a) {
			t.Errorf("%+v is not plain", a)
		}
	}
}

func TestSetAbacus(t *testing.T) {
	for _, c := range []struct {
		a     impl.Abacus
		value int64
		want  impl.Abacus
		code  int64
	}{
		{soroban(7, 0, 1), 46, soroban(6, 4, 0), impl.OK},
		{soroban(7, 0, 1), 0, soroban(0, 0, 0), impl.OK},
		{soroban(7, 0, 1), 999, soroban(9, 9, 9), impl.OK},
		{soroban(7, 0, 1), 1000, impl.Abacus{}, impl.ErrFull},
		{soroban(7), 9, soroban(9), impl.OK},
		{soroban(7), 10, impl.Abacus{}, impl.ErrFull},
		{soroban(7), 100, impl.Abacus{}, impl.ErrFull},
		{abacus(2, 5, 5, 2, 4, 0, 5), 50, abacus(2, 5, 5, 0, 0, 1, 0), impl.OK},
		{abacus(1, 6, 3, 0, 0), 9, abacus(1, 6, 3, 1, 6), impl.OK},
		{abacus(4, 12, 10, 4, 12), 9, abacus(4, 12, 10, 0, 9), impl.OK},
		{abacus(4, 5, 1, 0, 0), 3, abacus(4, 5, 1, 3, 0), impl.OK},
		{soroban(make([]int64, 10)...), 9999999999, soroban(slices.Repeat([]int64{9}, 10)...), impl.OK},
		{soroban(make([]int64, 10)...), 10000000000, impl.Abacus{}, impl.ErrFull},
		{soroban(make([]int64, 10)...), impl.MaxValue, impl.Abacus{}, impl.ErrFull},
		{soroban(7), impl.MaxValue, impl.Abacus{}, impl.ErrFull},
		{soroban(7), impl.MaxValue + 1, impl.Abacus{}, impl.ErrRange},
		{soroban(7), -1, impl.Abacus{}, impl.ErrRange},
		{soroban(7), math.MaxInt64, impl.Abacus{}, impl.ErrRange},
		{soroban(7), math.MinInt64, impl.Abacus{}, impl.ErrRange},
	} {
		isResult(t, "setting of "+impl.Decimal(c.value), purely(t, impl.SetAbacus, c.a, c.value), c.want, c.code)
	}
	for _, a := range validAbaci() {
		for _, value := range []int64{0, 1, 5, 9, 10, 38, 99, 100, 1234567890, 9876543210, 9999999999, 10000000000} {
			want, ok := setting(a, len(a.Rods), value)
			got, code := impl.SetAbacus(a, value)
			if ok {
				isResult(t, "setting of "+impl.Decimal(value), all(got, code, impl.IsPlain(got)), want, int64(impl.OK), true)
			} else {
				isResult(t, "setting of "+impl.Decimal(value), all(got, code), impl.Abacus{}, int64(impl.ErrFull))
			}
		}
	}
}

func TestPlainAbacus(t *testing.T) {
	for _, c := range []struct {
		a    impl.Abacus
		want impl.Abacus
		code int64
	}{
		{abacus(2, 5, 5, 2, 4, 0, 0), abacus(2, 5, 5, 0, 4, 0, 1), impl.OK},
		{abacus(2, 5, 5, 0, 5, 1, 0), abacus(2, 5, 5, 1, 0, 1, 0), impl.OK},
		{abacus(2, 5, 5, 2, 0, 1, 4, 1, 4), impl.Abacus{}, impl.ErrFull},
		{abacus(2, 5, 5, 2, 0, 1, 3, 1, 4), abacus(2, 5, 5, 0, 0, 1, 4, 1, 4), impl.OK},
		{abacus(2, 5, 5, 2, 0), impl.Abacus{}, impl.ErrFull},
		{abacus(4, 12, 10, slices.Repeat([]int64{4, 12}, 10)...), impl.Abacus{}, impl.ErrFull},
		{soroban(7, 0, 1), soroban(7, 0, 1), impl.OK},
	} {
		isResult(t, "plain setting", purely(t, impl.PlainAbacus, c.a), c.want, c.code)
	}
	for _, a := range validAbaci() {
		want, ok := setting(a, len(a.Rods), shown(a))
		got, code := impl.PlainAbacus(a)
		if ok {
			isResult(t, "plain setting", all(got, code, impl.IsPlain(got)), want, int64(impl.OK), true)
		} else {
			isResult(t, "plain setting", all(got, code), impl.Abacus{}, int64(impl.ErrFull))
		}
		if impl.IsPlain(a) && !reflect.DeepEqual(got, a) {
			t.Errorf("%+v is plain, but becomes %+v", a, got)
		}
	}
}

func TestMoveBeads(t *testing.T) {
	none := impl.Abacus{}
	for _, c := range []struct {
		a    impl.Abacus
		m    impl.BeadMove
		want impl.Abacus
		code int64
	}{
		{soroban(7, 0), move(0, -1, 0), soroban(2, 0), impl.OK},
		{soroban(7, 0), move(0, 0, 2), soroban(9, 0), impl.OK},
		{soroban(7, 0), move(1, 1, 4), soroban(7, 9), impl.OK},
		{soroban(7, 0), move(1, 0, 0), soroban(7, 0), impl.OK},
		{soroban(7, 0), move(0, 1, 0), none, impl.ErrState},
		{soroban(7, 0), move(0, 0, 3), none, impl.ErrState},
		{soroban(7, 0), move(0, -2, 0), none, impl.ErrState},
		{soroban(7, 0), move(0, 0, -3), none, impl.ErrState},
		{soroban(7, 0), move(0, -1, -3), none, impl.ErrState},
		{soroban(7, 0), move(0, 1, -2), none, impl.ErrState},
		{soroban(7, 0), move(0, 4, 12), none, impl.ErrState},
		{soroban(7, 0), move(0, -4, -12), none, impl.ErrState},
		{soroban(7, 0), move(-1, 0, 0), none, impl.ErrRange},
		{soroban(7, 0), move(2, 0, 0), none, impl.ErrRange},
		{soroban(7, 0), move(1<<32, 0, 0), none, impl.ErrRange},
		{soroban(7, 0), move(math.MaxInt64, 0, 0), none, impl.ErrRange},
		{soroban(7, 0), move(math.MinInt64, 0, 0), none, impl.ErrRange},
		{soroban(7, 0), move(0, 5, 0), none, impl.ErrRange},
		{soroban(7, 0), move(0, -5, 0), none, impl.ErrRange},
		{soroban(7, 0), move(0, 0, 13), none, impl.ErrRange},
		{soroban(7, 0), move(0, 0, -13), none, impl.ErrRange},
		{soroban(7, 0), move(0, math.MinInt64, 0), none, impl.ErrRange},
		{soroban(7, 0), move(0, math.MaxInt64, 0), none, impl.ErrRange},
		{soroban(7, 0), move(0, 0, math.MinInt64), none, impl.ErrRange},
		{soroban(7, 0), move(0, 0, math.MaxInt64), none, impl.ErrRange},
		{abacus(4, 12, 10, 0, 0), move(0, 4, 12), abacus(4, 12, 10, 4, 12), impl.OK},
		{abacus(4, 12, 10, 4, 12), move(0, -4, -12), abacus(4, 12, 10, 0, 0), impl.OK},
		{abacus(0, 9, 1, 0, 9), move(0, 0, -9), abacus(0, 9, 1, 0, 0), impl.OK},
		{abacus(0, 9, 1, 0, 9), move(0, 1, 0), none, impl.ErrState},
		{abacus(2, 5, 5, 1, 4), move(0, 1, 1), abacus(2, 5, 5, 2, 5), impl.OK}, // a move need not lead to a plain setting
	} {
		isResult(t, "move", purely(t, impl.MoveBeads, c.a, c.m), c.want, c.code)
	}
}

// TestMoveBeadsForAllMoves tries all moves in and beyond the limits on some settings.
func TestMoveBeadsForAllMoves(t *testing.T) {
	for _, a := range []impl.Abacus{soroban(7, 0), abacus(2, 5, 5, 1, 3, 2, 5), abacus(0, 9, 1, 0, 4), abacus(4, 12, 10, 2, 6, 4, 0, 0, 12)} {
		for rod := int64(-1); rod <= 3; rod++ {
			for up := int64(-6); up <= 6; up++ {
				for down := int64(-14); down <= 14; down++ {
					want := impl.Abacus{Upper: a.Upper, Lower: a.Lower, Worth: a.Worth, Rods: slices.Clone(a.Rods)}
					code := int64(impl.OK)
					if rod < 0 || rod >= int64(len(a.Rods)) || up < -4 || up > 4 || down < -12 || down > 12 {
						want, code = impl.Abacus{}, impl.ErrRange
					} else if want.Rods[rod].Up += up; want.Rods[rod].Up < 0 || want.Rods[rod].Up > a.Upper {
						want, code = impl.Abacus{}, impl.ErrState
					} else if want.Rods[rod].Down += down; want.Rods[rod].Down < 0 || want.Rods[rod].Down > a.Lower {
						want, code = impl.Abacus{}, impl.ErrState
					}
					got, gotCode := impl.MoveBeads(a, move(rod, up, down))
					isResult(t, "move", all(got, gotCode), want, code)
				}
			}
		}
	}
}

func TestBeadsBetween(t *testing.T) {
	for _, c := range []struct {
		a, b impl.Abacus
		want int64
		code int64
	}{
		{soroban(7, 9), soroban(2, 0), 6, impl.OK},
		{soroban(7, 9), soroban(7, 9), 0, impl.OK},
		{soroban(5), soroban(4), 5, impl.OK}, // one bead to the bar and four away from it
		{abacus(2, 5, 5, 0, 5, 1, 0), abacus(2, 5, 5, 1, 0, 0, 0), 7, impl.OK},
		{abacus(4, 12, 10, slices.Repeat([]int64{4, 12}, 10)...), abacus(4, 12, 10, make([]int64, 20)...), 160, impl.OK},
		{soroban(7, 9), soroban(7), 0, impl.ErrState},
		{soroban(7), abacus(2, 4, 5, 1, 2), 0, impl.ErrState},
		{soroban(7), abacus(1, 5, 5, 1, 2), 0, impl.ErrState},
		{abacus(1, 5, 5, 1, 2), abacus(1, 5, 4, 1, 2), 0, impl.ErrState},
	} {
		isResult(t, "beads between", purely(t, impl.BeadsBetween, c.a, c.b), c.want, c.code)
		isResult(t, "beads back", purely(t, impl.BeadsBetween, c.b, c.a), c.want, c.code)
	}
}

func TestAddOnAbacus(t *testing.T) {
	none := impl.Abacus{}
	for _, c := range []struct {
		a     impl.Abacus
		value int64
		want  impl.Abacus
		moves []impl.BeadMove
		code  int64
	}{
		{soroban(7, 9, 0), 5, soroban(2, 0, 1), []impl.BeadMove{move(0, -1, 0), move(1, -1, -4), move(2, 0, 1)}, impl.OK},
		{soroban(7, 0), 0, soroban(7, 0), nil, impl.OK},
		{soroban(4), 1, soroban(5), []impl.BeadMove{move(0, 1, -4)}, impl.OK},
		// The highest digit comes first: its carry is there before the lower ones are added.
		{soroban(5, 5, 0), 55, soroban(0, 1, 1), []impl.BeadMove{move(1, -1, 0), move(2, 0, 1), move(0, -1, 0), move(1, 0, 1)}, impl.OK},
		{soroban(1, 2, 3), 405, soroban(6, 2, 7), []impl.BeadMove{move(2, 1, -1), move(0, 1, 0)}, impl.OK}, // nothing is moved for a digit 0
		{soroban(9, 9, 8), 1, soroban(0, 0, 9), []impl.BeadMove{move(0, -1, -4), move(1, -1, -4), move(2, 0, 1)}, impl.OK},
		{abacus(1, 6, 3, 1, 5), 1, abacus(1, 6, 3, 1, 6), []impl.BeadMove{move(0, 0, 1)}, impl.OK},
		{abacus(4, 12, 10, 0, 9, 0, 0), 9, abacus(4, 12, 10, 0, 8, 0, 1), []impl.BeadMove{move(0, 0, -1), move(1, 0, 1)}, impl.OK},
		{soroban(9, 9), 0, soroban(9, 9), nil, impl.OK},
		{soroban(9, 9), 1, none, nil, impl.ErrFull},
		{soroban(8, 9), 1, soroban(9, 9), []impl.BeadMove{move(0, 0, 1)}, impl.OK},
		{soroban(7, 9), 21, none, nil, impl.ErrFull},
		{soroban(0, 0), 100, none, nil, impl.ErrFull},
		{soroban(0, 0), 99, soroban(9, 9), []impl.BeadMove{move(1, 1, 4), move(0, 1, 4)}, impl.OK},
		{soroban(0), impl.MaxValue, none, nil, impl.ErrFull},
		{soroban(make([]int64, 10)...), impl.MaxValue, none, nil, impl.ErrFull},
		{soroban(make([]int64, 10)...), 10000000000, none, nil, impl.ErrFull},
		{soroban(7), impl.MaxValue + 1, none, nil, impl.ErrRange},
		{soroban(7), -1, none, nil, impl.ErrRange},
		{soroban(7), math.MinInt64, none, nil, impl.ErrRange},
		{soroban(7), math.MaxInt64, none, nil, impl.ErrRange},
		{abacus(2, 5, 5, 2, 4, 0, 0), 1, none, nil, impl.ErrState},
		{abacus(2, 5, 5, 0, 0, 0, 5), 0, none, nil, impl.ErrState},
		{abacus(2, 5, 5, 2, 0), 0, none, nil, impl.ErrState},             // it shows 10, which is no digit
		{abacus(2, 5, 5, 2, 4), -1, none, nil, impl.ErrRange},            // ErrRange comes before ErrState
		{abacus(2, 5, 5, 2, 4), impl.MaxValue, none, nil, impl.ErrState}, // and ErrState before ErrFull
		{abacus(4, 12, 10, 1, 0), impl.MaxValue, none, nil, impl.ErrState},
	} {
		isResult(t, "sum with "+impl.Decimal(c.value), purely(t, impl.AddOnAbacus, c.a, c.value), c.want, c.moves, c.code)
	}
}

// movesFor finds the moves of an addition by the values of the settings: each move leads from one plain setting to another one.
func movesFor(a impl.Abacus, value int64) []impl.BeadMove {
	digits := make([]int64, len(a.Rods))
	for k, r := range a.Rods {
		digits[k] = r.Up*a.Worth + r.Down
	}
	var moves []impl.BeadMove
	var add func(k int, n int64)
	add = func(k int, n int64) {
		from, to := plainly(a, digits[k]), plainly(a, (digits[k]+n)%10)
		moves = append(moves, move(int64(k), to.Up-from.Up, to.Down-from.Down))
		carries := digits[k]+n >= 10
		digits[k] = (digits[k] + n) % 10
		if carries {
			add(k+1, 1)
		}
	}
	text := impl.Decimal(value)
	for i, c := range text {
		if c != '0' {
			add(len(text)-1-i, int64(c-'0'))
		}
	}
	return moves
}

// checkAddition checks promise 3 for a plain setting and a value.
func checkAddition(t *testing.T, a impl.Abacus, value int64) {
	t.Helper()
	what := impl.Decimal(shown(a)) + " + " + impl.Decimal(value)
	want, ok := setting(a, len(a.Rods), shown(a)+value)
	sum, moves, code := impl.AddOnAbacus(a, value)
	if !ok {
		isResult(t, what, all(sum, moves, code), impl.Abacus{}, []impl.BeadMove(nil), int64(impl.ErrFull))
		return
	}
	isResult(t, what, all(sum, moves, code), want, movesFor(a, value), int64(impl.OK))
	total, code := impl.AbacusValue(sum)
	isResult(t, "value of "+what, all(total, code), shown(a)+value, int64(impl.OK))
	end, count, code := impl.ReplayBeads(a, moves)
	isResult(t, "replay of "+what, all(end, count, code), sum, int64(len(moves)), int64(impl.OK))
	step := a
	for _, m := range moves {
		step, code = impl.MoveBeads(step, m)
		if code != impl.OK || m.Up == 0 && m.Down == 0 || !impl.IsPlain(step) {
			t.Errorf("%s: the move %+v gives %+v, %d", what, m, step, code)
		}
	}
	isResult(t, "moves of "+what, all(step), sum)
}

func TestPromise3AllSmallSums(t *testing.T) {
	for _, a := range abaciWithoutRods() {
		for x := range int64(100) {
			a, _ := setting(a, 2, x)
			for _, y := range []int64{0, 1, 2, 5, 9, 10, 11, 19, 50, 55, 90, 91, 99, 100, 101, 99 - x, 100 - x} {
				checkAddition(t, a, y)
			}
		}
	}
	for x := range int64(100) {
		for y := range int64(120) {
			a, _ := setting(soroban(), 2, x)
			checkAddition(t, a, y)
		}
	}
}

func TestPromise3GreatSums(t *testing.T) {
	random := rand.New(rand.NewSource(33))
	for _, a := range abaciWithoutRods() {
		for rods := 1; rods <= impl.MaxRods; rods++ {
			count := int64(math.Pow10(rods))
			value := random.Int63n(count)
			a, _ := setting(a, rods, value)
			for _, other := range []int64{random.Int63n(count), random.Int63n(count - value), count - 1 - value, count - value, count, impl.MaxValue} {
				checkAddition(t, a, other)
			}
		}
	}
}

func TestReplayBeads(t *testing.T) {
	for _, c := range []struct {
		list []impl.BeadMove
		want impl.Abacus
		done int64
	}{
		{nil, soroban(7, 0), 0},
		{[]impl.BeadMove{}, soroban(7, 0), 0},
		{[]impl.BeadMove{{}}, soroban(7, 0), 1},
		{[]impl.BeadMove{move(0, -1, 0), move(1, 0, 1), move(0, 1, 1)}, soroban(8, 1), 3},
		{[]impl.BeadMove{move(0, 1, 0)}, soroban(7, 0), 0},                                    // ErrState at once
		{[]impl.BeadMove{move(0, 0, 1), move(2, 0, 0), move(0, 0, 1)}, soroban(8, 0), 1},      // ErrRange: no such rod
		{[]impl.BeadMove{move(0, 0, 1), move(-1, 0, 0)}, soroban(8, 0), 1},                    // ErrRange as well
		{[]impl.BeadMove{move(0, 0, 1), move(0, 0, 1), move(0, 0, 1)}, soroban(9, 0), 2},      // ErrState: no bead is left
		{[]impl.BeadMove{move(0, 0, 1), move(0, -1, 2), move(0, 0, -1)}, soroban(8, 0), 1},    // nothing of a failing move is done
		{[]impl.BeadMove{move(1, 0, 1), move(0, math.MinInt64, 0), {}}, soroban(7, 1), 1},     // ErrRange: too many beads
		{[]impl.BeadMove{move(1, 0, 1), move(0, 0, math.MaxInt64), {}, {}}, soroban(7, 1), 1}, // ErrRange as well
	} {
		isResult(t, "moves", purely(t, impl.ReplayBeads, soroban(7, 0), c.list), c.want, c.done, int64(impl.OK))
	}
}

// TestReplayBeadsIsMoveBeads compares a list of random moves with the moves one by one.
func TestReplayBeadsIsMoveBeads(t *testing.T) {
	random := rand.New(rand.NewSource(333))
	for _, a := range validAbaci() {
		var list []impl.BeadMove
		for range 8 {
			list = append(list, move(random.Int63n(int64(len(a.Rods))), random.Int63n(3)-1, random.Int63n(5)-2))
		}
		want, done := a, int64(0)
		for _, m := range list {
			next, code := impl.MoveBeads(want, m)
			if code != impl.OK {
				break
			}
			want = next
			done++
		}
		got, count, code := impl.ReplayBeads(a, list)
		isResult(t, "moves", all(got, count, code), want, done, int64(impl.OK))
	}
}

func TestAbacusPicture(t *testing.T) {
	for _, c := range []struct {
		a    impl.Abacus
		want string
	}{
		{soroban(7), "| o = o o | o o"},
		{soroban(7, 0), "o| |o == |o oo o| oo oo"},
		{soroban(9, 5, 4, 0), "oo|| ||oo ==== |o|o oooo oooo oooo o|o|"},
		{abacus(0, 9, 1, 0, 0, 0, 9), "|| == o| oo oo oo oo oo oo oo oo |o"},
		{abacus(2, 5, 5, 2, 5, 1, 3, 0, 0), "oo| o|o |oo === |oo ooo ooo o|o ooo oo|"},
		{abacus(4, 2, 3, 3, 1), "o | o o o = o | o"},
	} {
		lines, code := impl.AbacusPicture(c.a)
		if got := strings.Join(lines, " "); code != impl.OK || c.a.Upper+c.a.Lower+3 != int64(len(lines)) {
			t.Errorf("%+v: picture is %q, %d", c.a, got, code)
		} else if got != c.want {
			t.Errorf("%+v: picture is\n%q, want\n%q", c.a, got, c.want)
		}
	}
}

// TestAbacusPictureForAllAbaci reads the settings back from the columns of the pictures.
func TestAbacusPictureForAllAbaci(t *testing.T) {
	for _, a := range validAbaci() {
		lines, code := impl.AbacusPicture(a)
		if code != impl.OK || int64(len(lines)) != a.Upper+a.Lower+3 {
			t.Fatalf("%+v: %d lines, %d", a, len(lines), code)
		}
		for k, r := range a.Rods {
			column := ""
			for _, line := range lines {
				if len(line) != len(a.Rods) {
					t.Fatalf("%+v: line %q", a, line)
				}
				column += line[len(line)-1-k:][:1]
			}
			beads := func(n int64) string { return strings.Repeat("o", int(n)) }
			want := beads(a.Upper-r.Up) + "|" + beads(r.Up) + "=" + beads(r.Down) + "|" + beads(a.Lower-r.Down)
			if column != want {
				t.Errorf("%+v: rod %d is drawn as %q, want %q", a, k, column, want)
			}
		}
	}
}
