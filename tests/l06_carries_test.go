package tests

import (
	"math"
	"math/big"
	"math/rand"
	"runtime"
	"slices"
	"strings"
	"sync"
	"testing"
	"time"

	"loop.example/g00930/impl"
)

func turnOf(wheel, steps int64) impl.CarryEvent {
	return impl.CarryEvent{Kind: impl.EventTurn, Wheel: wheel, Steps: steps}
}

func cockOf(wheel int64) impl.CarryEvent { return impl.CarryEvent{Kind: impl.EventCock, Wheel: wheel} }

func pushOf(wheel int64) impl.CarryEvent { return impl.CarryEvent{Kind: impl.EventPush, Wheel: wheel} }

// eventTexts returns the texts of events in one line.
func eventTexts(list []impl.CarryEvent) string {
	var texts []string
	for _, e := range list {
		texts = append(texts, impl.EventText(e))
	}
	return strings.Join(texts, ", ")
}

// registersOf returns all registers of a base and a width.
func registersOf(base int64, width int) []impl.Register {
	count := int64(1)
	for range width {
		count *= base
	}
	var list []impl.Register
	for value := range count {
		r, _ := bigDigits(base, width, big.NewInt(value))
		list = append(list, r)
	}
	return list
}

// The least shapes, of which all pairs of registers are tried.
var smallShapes = []struct {
	base  int64
	width int
}{{2, 1}, {2, 2}, {2, 3}, {2, 4}, {2, 5}, {3, 1}, {3, 2}, {3, 3}, {4, 2}, {5, 2}, {7, 1}, {10, 1}, {16, 1}}

// carryPairs has pairs of registers of all shapes, among them many with long runs of carries and many with too great a sum.
func carryPairs() [][2]impl.Register {
	random := rand.New(rand.NewSource(6))
	var list [][2]impl.Register
	add := func(a, b impl.Register) {
		if impl.ValidRegister(a) && impl.ValidRegister(b) {
			list = append(list, [2]impl.Register{a, b})
		}
	}
	for _, s := range smallShapes {
		for _, a := range registersOf(s.base, s.width) {
			for _, b := range registersOf(s.base, s.width) {
				add(a, b)
			}
		}
	}
	valid := validRegisters()
	for i, a := range valid { // the registers of a shape are beside each other
		for _, b := range valid[i-i%7 : i-i%7+7] {
			add(a, b)
		}
	}
	for base := int64(2); base <= impl.MaxBase; base++ {
		for width := 1; width <= impl.MaxWidth; width++ {
			for range 40 {
				a := randomDigits(random, base, width)
				b := reg(base, make([]int64, width)...)
				for k, d := range a.Digits {
					b.Digits[k] = max(0, min(base-1, base-2-d+random.Int63n(3))) // the sums are about Base - 1
				}
				add(a, b)
			}
		}
	}
	return list
}

// slowSum is an addition in two phases, written down as the sums of the digits and the carries tell it.
type slowSum struct {
	turned []int64 // after the first phase
	cocked []bool  // by the first phase
	events []impl.CarryEvent
	runs   []int64 // for each lever, the run that ends with it
}

func slowSumOf(a, b impl.Register) slowSum {
	var s slowSum
	width := len(a.Digits)
	var turns, pushes []impl.CarryEvent
	run := int64(0)
	for k := range width {
		t := a.Digits[k] + b.Digits[k]
		s.turned = append(s.turned, t%a.Base)
		s.cocked = append(s.cocked, t >= a.Base)
		if b.Digits[k] != 0 {
			turns = append(turns, turnOf(int64(k), b.Digits[k]))
		}
		if t >= a.Base {
			turns = append(turns, cockOf(int64(k)))
		}
		if run > 0 {
			t++
			pushes = append(pushes, pushOf(int64(k-1)))
		}
		switch {
		case t == a.Base && !s.cocked[k]:
			run++
			pushes = append(pushes, cockOf(int64(k)))
		case t >= a.Base:
			run = 1
		default:
			run = 0
		}
		s.runs = append(s.runs, run)
	}
	if run > 0 {
		pushes = append(pushes, pushOf(int64(width-1)))
	}
	s.events = append(turns, pushes...)
	return s
}

// oddEvents are ordinary events, limits and extremes.
func oddEvents() []impl.CarryEvent {
	list := []impl.CarryEvent{{}, turnOf(0, 5), turnOf(0, 0), turnOf(1, 1), turnOf(15, 1), cockOf(0), cockOf(1), pushOf(0), pushOf(1), pushOf(15)}
	for _, n := range []int64{-1, 4, 16, math.MaxInt64, math.MinInt64} {
		list = append(list, turnOf(0, n), turnOf(n, 0), cockOf(n), pushOf(n), impl.CarryEvent{Kind: n}, impl.CarryEvent{Kind: n, Wheel: n, Steps: n},
			impl.CarryEvent{Kind: impl.EventPush, Steps: n}, impl.CarryEvent{Kind: impl.EventCock, Steps: n})
	}
	return list
}

func TestPromise1Carries(t *testing.T) {
	for _, a := range someRegisters() {
		for _, b := range someRegisters() {
			purely(t, impl.TurnWheels, a, b)
			purely(t, impl.AddSlowly, a, b)
			purely(t, impl.EventsOf, a, b)
			purely(t, impl.CountPushes, a, b)
			purely(t, impl.RippleOf, a, b)
		}
		for _, cocked := range [][]bool{nil, {}, {true}, {false}, {true, true}, {false, true}, make([]bool, 16), slices.Repeat([]bool{true}, 14), make([]bool, 1000)} {
			purely(t, impl.PushLevers, a, cocked)
		}
		purely(t, impl.ReplayEvents, a, []impl.CarryEvent(nil))
		purely(t, impl.ReplayEvents, a, oddEvents())
		for _, e := range oddEvents() {
			purely(t, impl.ReplayEvents, a, []impl.CarryEvent{e})
			purely(t, impl.ReplayEvents, a, []impl.CarryEvent{turnOf(0, 1), e, pushOf(0)})
		}
	}
	for _, e := range oddEvents() {
		purely(t, impl.EventText, e)
	}
	for _, base := range oddNumbers {
		for _, width := range oddNumbers {
			purely(t, impl.WorstRipple, base, width)
		}
	}
}

func TestPromise1CarriesOfValidRegisters(t *testing.T) {
	for i, p := range carryPairs() {
		if i%10 != 0 {
			continue
		}
		a, b := p[0], p[1]
		cocked := make([]bool, len(a.Digits))
		for k := range cocked {
			cocked[k] = b.Digits[k]%2 == 1
		}
		purely(t, impl.TurnWheels, a, b)
		purely(t, impl.PushLevers, a, cocked)
		purely(t, impl.AddSlowly, a, b)
		purely(t, impl.EventsOf, a, b)
		purely(t, impl.ReplayEvents, a, slowSumOf(a, b).events)
		purely(t, impl.CountPushes, a, b)
		purely(t, impl.RippleOf, a, b)
	}
}

// TestCarriesAreNotDisturbed makes additions at the same time: none may depend on another one, and nothing of them may go on
// behind their end.
func TestCarriesAreNotDisturbed(t *testing.T) {
	before := runtime.NumGoroutine()
	pairs := carryPairs()
	var group sync.WaitGroup
	for part := range 8 {
		group.Go(func() {
			for i := part; i < len(pairs); i += 24 {
				a, b := pairs[i][0], pairs[i][1]
				list, code := impl.EventsOf(a, b)
				isResult(t, "events", all(list, code), slowSumOf(a, b).events, int64(impl.OK))
				impl.TurnWheels(a, b)
				impl.AddSlowly(a, b)
				impl.PushLevers(a, make([]bool, len(a.Digits)))
				impl.ReplayEvents(a, list)
			}
		})
	}
	group.Wait()
	for range 1000 {
		if runtime.NumGoroutine() <= before {
			return
		}
		time.Sleep(time.Millisecond) // one that has nothing more to do may still have to be cleared away
	}
	t.Errorf("%d goroutines go on, %d were there before", runtime.NumGoroutine(), before)
}

func TestConstantsOfCarries(t *testing.T) {
	isResult(t, "kinds", all(impl.EventTurn, impl.EventCock, impl.EventPush), 1, 2, 3)
}

func TestInvalidRegistersWithCarriesAreRejected(t *testing.T) {
	invalid, none := int64(impl.ErrInvalid), impl.Register{}
	for _, bad := range invalidRegisters() {
		for _, good := range []impl.Register{bad, reg(10, 3, 7), reg(10, 3), reg(2, 1)} { // ErrInvalid comes before ErrState
			for _, pair := range [][2]impl.Register{{bad, good}, {good, bad}} {
				isResult(t, "turned wheels", purely(t, impl.TurnWheels, pair[0], pair[1]), none, []bool(nil), invalid)
				isResult(t, "slow sum", purely(t, impl.AddSlowly, pair[0], pair[1]), none, int64(0), invalid)
				isResult(t, "events", purely(t, impl.EventsOf, pair[0], pair[1]), []impl.CarryEvent(nil), invalid)
				isResult(t, "pushes", purely(t, impl.CountPushes, pair[0], pair[1]), int64(0), invalid)
				isResult(t, "ripple", purely(t, impl.RippleOf, pair[0], pair[1]), int64(0), invalid)
			}
		}
		for _, width := range []int{len(bad.Digits), 0, 1, 2, 17} { // before ErrFormat
			isResult(t, "pushed levers", purely(t, impl.PushLevers, bad, make([]bool, width)), none, int64(0), invalid)
		}
		for _, list := range [][]impl.CarryEvent{nil, {turnOf(0, 1)}, {{}}, {pushOf(-1)}, {pushOf(16)}} { // before ErrRange
			isResult(t, "replayed events", purely(t, impl.ReplayEvents, bad, list), none, invalid)
		}
	}
}

func TestDifferentShapesWithCarriesAreRejected(t *testing.T) {
	state, none := int64(impl.ErrState), impl.Register{}
	most := reg(10, 0, 0, 0, 0, 0, 0, 0, 0, 0, 0, 0, 0, 1)
	wide := reg(10, 1, 0, 0, 0, 0, 0, 0, 0, 0, 0, 0, 0, 0, 0)
	for _, pair := range [][2]impl.Register{
		{reg(10, 1), reg(10, 1, 0)}, {reg(10, 1, 0), reg(10, 1)}, {reg(10, 1), reg(9, 1)}, {reg(2, 1), reg(16, 1)}, {reg(2, 1), reg(16, 1, 0)},
		{most, wide}, {wide, most}, // ErrState comes before ErrFull
	} {
		isResult(t, "turned wheels", purely(t, impl.TurnWheels, pair[0], pair[1]), none, []bool(nil), state)
		isResult(t, "slow sum", purely(t, impl.AddSlowly, pair[0], pair[1]), none, int64(0), state)
		isResult(t, "events", purely(t, impl.EventsOf, pair[0], pair[1]), []impl.CarryEvent(nil), state)
		isResult(t, "pushes", purely(t, impl.CountPushes, pair[0], pair[1]), int64(0), state)
		isResult(t, "ripple", purely(t, impl.RippleOf, pair[0], pair[1]), int64(0), state)
	}
}

// leverText returns x for each lever that is cocked and - for the others, the highest one first as in the text of a register.
func leverText(cocked []bool) string {
	text := ""
	for _, c := range cocked {
		if c {
			text = "x" + text
		} else {
			text = "-" + text
		}
	}
	return text
}

// TestBothPhases has additions with what the wheels show after each phase; the empty text stands for ErrFull.
func TestBothPhases(t *testing.T) {
	for _, c := range []struct {
		a, b            string
		turned, cocked  string
		sum             string
		carry           int64
		pushes, ripples int64
	}{
		{"10:97", "10:05", "10:92", "-x", "10:02", 1, 2, 2},
		{"10:97", "10:15", "10:02", "xx", "10:12", 1, 2, 1},
		{"10:47", "10:05", "10:42", "-x", "10:52", 0, 1, 1},
		{"10:47", "10:52", "10:99", "--", "10:99", 0, 0, 0},
		{"10:50", "10:50", "10:00", "x-", "10:00", 1, 1, 1},
		{"10:00", "10:00", "10:00", "--", "10:00", 0, 0, 0},
		{"10:7", "10:3", "10:0", "x", "10:0", 1, 1, 1},
		{"10:7", "10:2", "10:9", "-", "10:9", 0, 0, 0},
		{"2:1", "2:1", "2:0", "x", "2:0", 1, 1, 1},
		{"2:1111", "2:0001", "2:1110", "---x", "2:0000", 1, 4, 4},
		{"2:1111", "2:1111", "2:0000", "xxxx", "2:1110", 1, 4, 1},
		{"16:ffff", "16:0001", "16:fff0", "---x", "16:0000", 1, 4, 4},
		{"16:efff", "16:0001", "16:eff0", "---x", "16:f000", 0, 3, 3},
		{"10:9905995", "10:0005005", "10:9900990", "---x--x", "10:9911000", 0, 4, 3}, // the second run begins anew
		{"10:99099995", "10:01900005", "10:90999990", "-x-----x", "10:01000000", 1, 8, 6},
		{"10:4995995", "10:0005005", "10:4990990", "---x--x", "10:5001000", 0, 6, 3}, // two runs, one behind the other
		{"10:1000000000000", "10:0000000000000", "10:1000000000000", "-------------", "10:1000000000000", 0, 0, 0},
		{"10:999999999999", "10:999999999999", "10:888888888888", "xxxxxxxxxxxx", "10:999999999998", 1, 12, 1},
		{"10:0999999999999", "10:0000000000001", "10:0999999999990", "------------x", "10:1000000000000", 0, 12, 12},
		{"10:0999999999999", "10:0000000000002", "10:0999999999991", "------------x", "", 0, 12, 12}, // too great after the second phase only
		{"10:0999999999999", "10:0999999999999", "10:0888888888888", "-xxxxxxxxxxxx", "", 0, 12, 1},
		{"10:1000000000000", "10:0000000000001", "", "", "", 0, 0, 0},
		{"10:1000000000000", "10:1000000000000", "", "", "", 0, 0, 0},
		{"16:8800000000", "16:7800000000", "", "", "16:0000000000", 1, 2, 2}, // after the first phase only: 15 is too great for the highest wheel
		{"16:8900000000", "16:7800000000", "", "", "16:0100000000", 1, 2, 2},
		{"16:88fffffff8", "16:7700000008", "", "", "16:0000000000", 1, 10, 10},
	} {
		a, b := read(t, c.a), read(t, c.b)
		what := c.a + " + " + c.b
		isResult(t, what, turnedText(impl.TurnWheels(a, b)), resultOf(c.turned, c.turned, c.cocked)...)
		isResult(t, what, sumText(impl.AddSlowly(a, b)), resultOf(c.sum, c.sum, c.carry)...)
		isResult(t, what, purely(t, impl.CountPushes, a, b), c.pushes, int64(impl.OK))
		isResult(t, what, purely(t, impl.RippleOf, a, b), c.ripples, int64(impl.OK))
	}
}

// resultOf returns results with the code OK, or ErrFull alone if text is empty.
func resultOf(text string, results ...any) []any {
	if text == "" {
		return all(int64(impl.ErrFull))
	}
	return append(results, int64(impl.OK))
}

func turnedText(r impl.Register, cocked []bool, code int64) []any {
	if code != impl.OK {
		return all(code)
	}
	return all(impl.RegisterText(r), leverText(cocked), code)
}

func sumText(r impl.Register, carry, code int64) []any {
	if code != impl.OK {
		return all(code)
	}
	return all(impl.RegisterText(r), carry, code)
}

// validOr returns r, another result and OK; zero values and ErrFull if r is not valid.
func validOr(r impl.Register, other, zero any) []any {
	if impl.ValidRegister(r) {
		return all(r, other, int64(impl.OK))
	}
	return all(impl.Register{}, zero, int64(impl.ErrFull))
}

func TestTurnWheelsOfManyPairs(t *testing.T) {
	full := 0
	for _, p := range carryPairs() {
		s := slowSumOf(p[0], p[1])
		wheels, cocked, code := impl.TurnWheels(p[0], p[1])
		isResult(t, "turned wheels", all(wheels, cocked, code), validOr(reg(p[0].Base, s.turned...), s.cocked, []bool(nil))...)
		if code == impl.ErrFull {
			full++
		}
	}
	if full == 0 {
		t.Error("no pair is too great after the first phase")
	}
}

func TestPushLevers(t *testing.T) {
	most := reg(10, 0, 0, 0, 0, 0, 0, 0, 0, 0, 0, 0, 0, 1)
	nines := reg(10, 9, 9, 9, 9, 9, 9, 9, 9, 9, 9, 9, 9, 0)
	levers := func(width int, cocked ...int) []bool {
		list := make([]bool, width)
		for _, k := range cocked {
			list[k] = true
		}
		return list
	}
	none, format, full := impl.Register{}, int64(impl.ErrFormat), int64(impl.ErrFull)
	for _, c := range []struct {
		r           impl.Register
		cocked      []bool
		want        impl.Register
		carry, code int64
	}{
		{reg(10, 2, 9), levers(2, 0), reg(10, 2, 0), 1, impl.OK}, // the last lever is cocked by a push
		{reg(10, 2, 8), levers(2, 0), reg(10, 2, 9), 0, impl.OK},
		{reg(10, 2, 9), levers(2, 1), reg(10, 2, 9), 1, impl.OK}, // there is no wheel behind
		{reg(10, 2, 9), levers(2), reg(10, 2, 9), 0, impl.OK},
		{reg(10, 2, 9), levers(2, 0, 1), reg(10, 2, 0), 1, impl.OK}, // a lever that is cocked twice is pushed once
		{reg(10, 2, 9, 9), levers(3, 0, 1), reg(10, 2, 0, 0), 1, impl.OK},
		{reg(10, 2, 9, 8), levers(3, 0, 1), reg(10, 2, 0, 9), 0, impl.OK},
		{reg(10, 2, 9, 3), levers(3, 0), reg(10, 2, 0, 4), 0, impl.OK},
		{reg(10, 9, 9, 9, 9), levers(4, 0), reg(10, 9, 0, 0, 0), 1, impl.OK}, // the first wheel stands still
		{reg(10, 9, 9, 9, 9), levers(4, 0, 2), reg(10, 9, 0, 0, 0), 1, impl.OK},
		{reg(10, 9, 9, 9, 9), levers(4, 2), reg(10, 9, 9, 9, 0), 1, impl.OK},
		{reg(10, 9, 9, 9, 9), levers(4, 3), reg(10, 9, 9, 9, 9), 1, impl.OK},
		{reg(10, 9, 4, 9, 9), levers(4, 0), reg(10, 9, 5, 9, 9), 0, impl.OK},
		{reg(10, 0, 0, 0, 0), levers(4, 0, 1, 2, 3), reg(10, 0, 1, 1, 1), 1, impl.OK},
		{reg(2, 1), levers(1, 0), reg(2, 1), 1, impl.OK},
		{reg(2, 1), levers(1), reg(2, 1), 0, impl.OK},
		{reg(2, slices.Repeat([]int64{1}, 16)...), levers(16, 0), reg(2, 1, 0, 0, 0, 0, 0, 0, 0, 0, 0, 0, 0, 0, 0, 0, 0), 1, impl.OK},
		{most, levers(13), most, 0, impl.OK},
		{most, levers(13, 12), most, 1, impl.OK},
		{most, levers(13, 0), none, 0, full},
		{most, levers(13, 11), none, 0, full},
		{nines, levers(13, 11), none, 0, full},
		{reg(10, 0, 9, 9, 9, 9, 9, 9, 9, 9, 9, 9, 9, 0), levers(13, 0), most, 0, impl.OK}, // the greatest value
		{reg(10, 1, 9, 9, 9, 9, 9, 9, 9, 9, 9, 9, 9, 0), levers(13, 0), none, 0, full},
		{reg(10, 2, 9), nil, none, 0, format},
		{reg(10, 2, 9), []bool{}, none, 0, format},
		{reg(10, 2, 9), levers(1), none, 0, format},
		{reg(10, 2, 9), levers(1, 0), none, 0, format},
		{reg(10, 2, 9), levers(3), none, 0, format},
		{reg(10, 2, 9), levers(100000), none, 0, format},
		{most, levers(12, 0), none, 0, format}, // ErrFormat comes before ErrFull
		{most, levers(14, 0), none, 0, format},
	} {
		isResult(t, impl.RegisterText(c.r)+" "+leverText(c.cocked[:min(len(c.cocked), 20)]), purely(t, impl.PushLevers, c.r, c.cocked), c.want, c.carry, c.code)
	}
}

// TestPushLeversOfAllSets has all registers of small shapes with all sets of levers. A lever is cocked at its turn
// if it has been at first, or if the one before it is and its wheel shows the greatest digit.
func TestPushLeversOfAllSets(t *testing.T) {
	for _, s := range smallShapes {
		for _, r := range registersOf(s.base, s.width) {
			for set := range 1 << s.width {
				cocked := make([]bool, s.width)
				want := reg(s.base, make([]int64, s.width)...)
				carry := int64(0)
				for k := range cocked {
					cocked[k] = set>>k&1 == 1
					want.Digits[k] = (r.Digits[k] + carry) % s.base
					if cocked[k] || carry == 1 && r.Digits[k] == s.base-1 {
						carry = 1
					} else {
						carry = 0
					}
				}
				got, last, code := impl.PushLevers(r, cocked)
				isResult(t, impl.RegisterText(r)+" "+leverText(cocked), all(got, last, code), want, carry, int64(impl.OK))
			}
		}
	}
}

// TestPhasesMakeASum has the phases one after the other, where the wheels are valid in between.
func TestPhasesMakeASum(t *testing.T) {
	for _, p := range carryPairs() {
		wheels, cocked, code := impl.TurnWheels(p[0], p[1])
		if code != impl.OK {
			continue
		}
		sum, carry, code := impl.PushLevers(wheels, cocked)
		want, wantCarry, wantCode := impl.AddSlowly(p[0], p[1])
		isResult(t, impl.RegisterText(p[0])+" + "+impl.RegisterText(p[1]), all(sum, carry, code), want, wantCarry, wantCode)
	}
}

func TestPromise6AddSlowlyIsAddRegisters(t *testing.T) {
	full, saved := 0, 0
	for _, p := range carryPairs() {
		a, b := p[0], p[1]
		sum, carry, code := impl.AddSlowly(a, b)
		want, wantCarry, wantCode := impl.AddRegisters(a, b)
		isResult(t, impl.RegisterText(a)+" + "+impl.RegisterText(b), all(sum, carry, code), want, wantCarry, wantCode)
		total := new(big.Int).Add(bigValue(a), bigValue(b))
		exact, ok := bigDigits(a.Base, len(a.Digits), total)
		if !ok {
			full++
			exact = impl.Register{}
		}
		isResult(t, "exact sum", all(sum), exact)
		if _, _, between := impl.TurnWheels(a, b); between == impl.ErrFull && code == impl.OK {
			saved++
		}
	}
	if full == 0 || saved == 0 {
		t.Errorf("%d sums are too great, and %d registers only between the phases", full, saved)
	}
}

func TestPromise6EventsLeadToTheSum(t *testing.T) {
	for _, p := range carryPairs() {
		a, b := p[0], p[1]
		what := impl.RegisterText(a) + " + " + impl.RegisterText(b)
		list, code := impl.EventsOf(a, b)
		if code != impl.OK {
			t.Fatalf("%s: %d", what, code)
		}
		sum, code := impl.ReplayEvents(a, list)
		want, _, wantCode := impl.AddRegisters(a, b)
		isResult(t, what+": "+eventTexts(list), all(sum, code), want, wantCode)
		carries, _ := impl.CarriesOf(a, b)
		for lever, carry := range carries[1:] { // each carry is a push, and there are no others
			isResult(t, what+": "+eventTexts(list), all(slices.Contains(list, pushOf(int64(lever)))), carry == 1)
		}
	}
}

func TestEventsOf(t *testing.T) {
	for _, c := range []struct{ a, b, want string }{
		{"10:97", "10:05", "turn 0 by 5, cock 0, push 0, cock 1, push 1"},
		{"10:97", "10:15", "turn 0 by 5, cock 0, turn 1 by 1, cock 1, push 0, push 1"},
		{"10:97", "10:02", "turn 0 by 2"},
		{"10:97", "10:00", ""},
		{"10:00", "10:99", "turn 0 by 9, turn 1 by 9"},
		{"10:00", "10:90", "turn 1 by 9"},
		{"10:50", "10:50", "turn 1 by 5, cock 1, push 1"},
		{"10:095", "10:005", "turn 0 by 5, cock 0, push 0, cock 1, push 1"},
		{"10:9", "10:9", "turn 0 by 9, cock 0, push 0"},
		{"2:11", "2:11", "turn 0 by 1, cock 0, turn 1 by 1, cock 1, push 0, push 1"},
		{"16:fff", "16:00f", "turn 0 by 15, cock 0, push 0, cock 1, push 1, cock 2, push 2"},
		{"10:4995995", "10:0005005", "turn 0 by 5, cock 0, turn 3 by 5, cock 3, push 0, cock 1, push 1, cock 2, push 2, push 3, cock 4, push 4, cock 5, push 5"},
		// What happens is told also if the sum, or the wheels between the phases, are not valid.
		{"10:1000000000000", "10:1000000000000", "turn 12 by 1"},
		{"10:1000000000000", "10:0000000000001", "turn 0 by 1"},
		{"16:8800000000", "16:7800000000", "turn 8 by 8, cock 8, turn 9 by 7, push 8, cock 9, push 9"},
	} {
		list, code := impl.EventsOf(read(t, c.a), read(t, c.b))
		isResult(t, c.a+" + "+c.b, all(eventTexts(list), code), c.want, int64(impl.OK))
	}
	list, code := impl.EventsOf(reg(10, 7, 9), reg(10, 5, 0))
	isResult(t, "example", all(list, code), []impl.CarryEvent{turnOf(0, 5), cockOf(0), pushOf(0), cockOf(1), pushOf(1)}, int64(impl.OK))
}

func TestEventsOfManyPairs(t *testing.T) {
	for _, p := range carryPairs() {
		s := slowSumOf(p[0], p[1])
		list, code := impl.EventsOf(p[0], p[1])
		if len(list) == 0 {
			list = nil
		}
		isResult(t, "events", all(list, code), s.events, int64(impl.OK))
	}
}

func TestReplayEvents(t *testing.T) {
	most := reg(10, 0, 0, 0, 0, 0, 0, 0, 0, 0, 0, 0, 0, 1)
	nines := reg(10, 9, 9, 9, 9, 9, 9, 9, 9, 9, 9, 9, 9, 0)
	none, outOfRange, full := impl.Register{}, int64(impl.ErrRange), int64(impl.ErrFull)
	events := func(list ...impl.CarryEvent) []impl.CarryEvent { return list }
	with := func(kind, wheel, steps int64) impl.CarryEvent {
		return impl.CarryEvent{Kind: kind, Wheel: wheel, Steps: steps}
	}
	for _, c := range []struct {
		r    impl.Register
		list []impl.CarryEvent
		want impl.Register
		code int64
	}{
		{reg(10, 7, 9), nil, reg(10, 7, 9), impl.OK},
		{reg(10, 7, 9), events(), reg(10, 7, 9), impl.OK},
		{reg(10, 7, 9), events(turnOf(0, 2)), reg(10, 9, 9), impl.OK},
		{reg(10, 7, 9), events(turnOf(0, 3)), reg(10, 0, 9), impl.OK}, // no carry without a push
		{reg(10, 7, 9), events(turnOf(0, 9)), reg(10, 6, 9), impl.OK},
		{reg(10, 7, 9), events(turnOf(0, 0)), reg(10, 7, 9), impl.OK},
		{reg(10, 7, 9), events(turnOf(1, 1), turnOf(0, 1), turnOf(1, 1)), reg(10, 8, 1), impl.OK},
		{reg(10, 7, 9), events(pushOf(0)), reg(10, 7, 0), impl.OK},
		{reg(10, 7, 9), events(pushOf(1)), reg(10, 7, 9), impl.OK}, // there is no wheel behind
		{reg(10, 7, 9), events(pushOf(0), pushOf(0), pushOf(1)), reg(10, 7, 1), impl.OK},
		{reg(10, 7, 9), events(cockOf(0), cockOf(1), cockOf(0)), reg(10, 7, 9), impl.OK},
		{reg(10, 9), events(pushOf(0)), reg(10, 9), impl.OK},
		{reg(10, 9, 9), events(with(impl.EventPush, 0, 9), with(impl.EventCock, 1, 9)), reg(10, 9, 0), impl.OK}, // a push is by 1, whatever Steps
		{reg(2, 1, 1, 0), events(turnOf(0, 1), pushOf(0), pushOf(1)), reg(2, 0, 0, 1), impl.OK},
		{reg(10, 0), slices.Repeat(events(turnOf(0, 7)), 100001), reg(10, 7), impl.OK},
		{most, events(turnOf(0, 1), turnOf(0, 9)), most, impl.OK}, // what is too great in between does not count
		{most, events(pushOf(11), turnOf(12, 8)), reg(10, 0, 0, 0, 0, 0, 0, 0, 0, 0, 0, 0, 0, 0), impl.OK},
		{most, events(turnOf(0, 1)), none, full},
		{most, events(pushOf(3)), none, full},
		{nines, events(pushOf(11)), none, full},
		{most, events(pushOf(12), cockOf(0)), most, impl.OK},
		{reg(10, 7, 9), events(impl.CarryEvent{}), none, outOfRange},
		{reg(10, 7, 9), events(with(4, 0, 0)), none, outOfRange},
		{reg(10, 7, 9), events(with(-1, 0, 0)), none, outOfRange},
		{reg(10, 7, 9), events(with(math.MaxInt64, 0, 0)), none, outOfRange},
		{reg(10, 7, 9), events(with(math.MinInt64, 0, 0)), none, outOfRange},
		{reg(10, 7, 9), events(with(1<<32+1, 0, 0)), none, outOfRange},
		{reg(10, 7, 9), events(turnOf(2, 1)), none, outOfRange},
		{reg(10, 7, 9), events(cockOf(2)), none, outOfRange},
		{reg(10, 7, 9), events(pushOf(2)), none, outOfRange},
		{reg(10, 7, 9), events(turnOf(-1, 1)), none, outOfRange},
		{reg(10, 7, 9), events(cockOf(-1)), none, outOfRange},
		{reg(10, 7, 9), events(pushOf(-1)), none, outOfRange}, // the wheel behind is there, but no such wheel
		{reg(10, 7, 9), events(pushOf(math.MaxInt64)), none, outOfRange},
		{reg(10, 7, 9), events(turnOf(math.MinInt64, 0)), none, outOfRange},
		{reg(10, 7, 9), events(turnOf(1<<32, 0)), none, outOfRange},
		{reg(10, 7, 9), events(turnOf(0, 10)), none, outOfRange},
		{reg(10, 7, 9), events(turnOf(0, -1)), none, outOfRange},
		{reg(2, 1), events(turnOf(0, 2)), none, outOfRange},
		{reg(10, 7, 9), events(with(impl.EventCock, 0, 10)), none, outOfRange}, // Steps of all kinds
		{reg(10, 7, 9), events(with(impl.EventPush, 0, -1)), none, outOfRange},
		{reg(10, 7, 9), events(with(impl.EventPush, 1, math.MaxInt64)), none, outOfRange},
		{reg(10, 7, 9), events(turnOf(0, 1), pushOf(0), cockOf(2)), none, outOfRange},
		{reg(10, 7, 9), append(slices.Repeat(events(turnOf(0, 7)), 1000), turnOf(0, 10)), none, outOfRange},
		{most, events(turnOf(0, 1), turnOf(0, 10)), none, outOfRange}, // ErrRange comes before ErrFull
		{most, events(turnOf(0, 1), pushOf(13)), none, outOfRange},
		{reg(10, 0, 0, 0, 0, 0, 0, 0, 0, 0, 0, 0, 0, 0, 0, 0, 0), events(pushOf(15), cockOf(15)), reg(10, 0, 0, 0, 0, 0, 0, 0, 0, 0, 0, 0, 0, 0, 0, 0, 0), impl.OK},
		{reg(10, 0, 0, 0, 0, 0, 0, 0, 0, 0, 0, 0, 0, 0, 0, 0, 0), events(pushOf(14)), none, full},
	} {
		what := impl.RegisterText(c.r) + ": " + eventTexts(c.list[:min(len(c.list), 5)])
		got, code := impl.ReplayEvents(c.r, c.list)
		isResult(t, what, all(got, code), c.want, c.code)
	}
}

// TestReplayEventsOfAnyKind replays events in any order, turning wheels by single steps.
func TestReplayEventsOfAnyKind(t *testing.T) {
	random := rand.New(rand.NewSource(66))
	for range 3000 {
		base, width := 2+random.Int63n(15), 1+random.Intn(9)
		r := randomDigits(random, base, width)
		want := reg(base, slices.Clone(r.Digits)...)
		var list []impl.CarryEvent
		for range random.Intn(20) {
			e := impl.CarryEvent{Kind: 1 + random.Int63n(3), Wheel: random.Int63n(int64(width)), Steps: random.Int63n(base)}
			list = append(list, e)
			wheel, steps := int(e.Wheel), e.Steps
			if e.Kind == impl.EventPush {
				wheel, steps = wheel+1, 1
			}
			for range steps {
				if e.Kind == impl.EventCock || wheel == width {
					break
				}
				if want.Digits[wheel]++; want.Digits[wheel] == base {
					want.Digits[wheel] = 0
				}
			}
		}
		got, code := impl.ReplayEvents(r, list)
		isResult(t, impl.RegisterText(r)+": "+eventTexts(list), all(got, code), want, int64(impl.OK))
	}
}

func TestCountPushesAndRipples(t *testing.T) {
	for _, p := range carryPairs() {
		a, b := p[0], p[1]
		carries, _ := impl.CarriesOf(a, b)
		pushes := int64(0)
		for _, c := range carries {
			pushes += c
		}
		got, code := impl.CountPushes(a, b)
		isResult(t, "pushes of "+impl.RegisterText(a)+" + "+impl.RegisterText(b), all(got, code), pushes, int64(impl.OK))
		got, code = impl.RippleOf(a, b)
		isResult(t, "ripple of "+impl.RegisterText(a)+" + "+impl.RegisterText(b), all(got, code), slices.Max(slowSumOf(a, b).runs), int64(impl.OK))
	}
}

func TestWorstRipple(t *testing.T) {
	none, outOfRange, full := impl.Register{}, int64(impl.ErrRange), int64(impl.ErrFull)
	isResult(t, "example", purely(t, impl.WorstRipple, int64(10), int64(3)), reg(10, 9, 9, 9), reg(10, 1, 0, 0), int64(impl.OK))
	for base := int64(-2); base <= 19; base++ {
		for width := int64(-2); width <= 19; width++ {
			a, b, code := impl.WorstRipple(base, width)
			if base < 2 || base > 16 || width < 1 || width > 16 {
				isResult(t, "ripple of no registers", all(a, b, code), none, none, outOfRange)
				continue
			}
			greatest, ok := bigDigits(base, int(width), big.NewInt(-1))
			if !ok {
				isResult(t, "ripple of too great registers", all(a, b, code), none, none, full)
				continue
			}
			one, _ := bigDigits(base, int(width), big.NewInt(1))
			isResult(t, "worst ripple", all(a, b, code), greatest, one, int64(impl.OK))
			isResult(t, "worst ripple", purely(t, impl.RippleOf, a, b), width, int64(impl.OK))
		}
	}
	for _, n := range []int64{math.MaxInt64, math.MinInt64, 1 << 32, 1<<32 + 10} {
		isResult(t, "ripple of no registers", purely(t, impl.WorstRipple, n, int64(3)), none, none, outOfRange)
		isResult(t, "ripple of no registers", purely(t, impl.WorstRipple, int64(10), n), none, none, outOfRange)
		isResult(t, "ripple of no registers", purely(t, impl.WorstRipple, n, n), none, none, outOfRange)
	}
	isResult(t, "ErrRange comes before ErrFull", purely(t, impl.WorstRipple, int64(17), int64(16)), none, none, outOfRange)
}

// TestWorstRippleIsTheWorst compares it with all pairs of small shapes.
func TestWorstRippleIsTheWorst(t *testing.T) {
	for _, s := range smallShapes {
		longest := int64(0)
		for _, a := range registersOf(s.base, s.width) {
			for _, b := range registersOf(s.base, s.width) {
				run, _ := impl.RippleOf(a, b)
				longest = max(longest, run)
			}
		}
		a, b, _ := impl.WorstRipple(s.base, int64(s.width))
		isResult(t, "longest run", purely(t, impl.RippleOf, a, b), longest, int64(impl.OK))
	}
}

func TestEventText(t *testing.T) {
	for e, want := range map[impl.CarryEvent]string{
		turnOf(0, 5):                         "turn 0 by 5",
		turnOf(15, 15):                       "turn 15 by 15",
		turnOf(3, 0):                         "turn 3 by 0",
		turnOf(-4, -2):                       "turn -4 by -2", // the numbers need not be those of any wheel
		turnOf(math.MaxInt64, math.MinInt64): "turn 9223372036854775807 by -9223372036854775808",
		cockOf(0):                            "cock 0",
		cockOf(12):                           "cock 12",
		cockOf(-1):                           "cock -1",
		pushOf(1):                            "push 1",
		pushOf(15):                           "push 15",
		pushOf(math.MaxInt64):                "push 9223372036854775807",
		{Kind: impl.EventCock, Wheel: 2, Steps: 7}: "cock 2",
		{Kind: impl.EventPush, Wheel: 2, Steps: 7}: "push 2",
		{}:                    "",
		{Wheel: 1, Steps: 2}:  "",
		{Kind: 4}:             "",
		{Kind: 4, Wheel: 1}:   "",
		{Kind: -1}:            "",
		{Kind: math.MaxInt64}: "",
		{Kind: math.MinInt64}: "",
		{Kind: 1<<32 + 1}:     "",
	} {
		isResult(t, "text", purely(t, impl.EventText, e), want)
	}
}
