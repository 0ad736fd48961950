package tests

import (
	"math"
	"math/rand"
	"slices"
	"strings"
	"testing"

	"loop.example/g00930/impl"
)

func drum(kind, base, turn, first int64) impl.Drum {
	return impl.Drum{Kind: kind, Base: base, Turn: turn, First: first}
}

// The drums of the document's examples.
var (
	stepped = drum(impl.DrumStepped, 10, 20, 3)
	pins    = drum(impl.DrumPins, 10, 20, 3)
	rack    = drum(impl.DrumRack, 10, 20, 0)
)

// allDrums has every valid drum.
func allDrums() []impl.Drum {
	var list []impl.Drum
	for base := int64(2); base <= 16; base++ {
		for turn := base; turn <= 60; turn++ {
			list = append(list, drum(impl.DrumRack, base, turn, 0))
			for first := int64(1); first <= turn-base+2; first++ {
				list = append(list, drum(impl.DrumStepped, base, turn, first), drum(impl.DrumPins, base, turn, first))
			}
		}
	}
	return list
}

// someDrums has drums of all kinds and bases, whose teeth pass as early and as late as they may, and others.
func someDrums() []impl.Drum {
	list := []impl.Drum{stepped, pins, rack}
	for base := int64(2); base <= 16; base++ {
		for _, turn := range []int64{base, base + 1, 2*base + 1, 60} {
			list = append(list, drum(impl.DrumRack, base, turn, 0))
			for _, first := range []int64{1, 2, turn - base + 2} {
				list = append(list, drum(impl.DrumStepped, base, turn, first), drum(impl.DrumPins, base, turn, first))
			}
		}
	}
	return list
}

func invalidDrums() []impl.Drum {
	list := []impl.Drum{
		{}, drum(0, 10, 20, 3), drum(0, 10, 20, 0), drum(4, 10, 20, 3), drum(4, 10, 20, 0), drum(-1, 10, 20, 3),
		drum(impl.DrumRack, 10, 20, 1), drum(impl.DrumRack, 10, 20, -1), drum(impl.DrumRack, 10, 20, 20),
		drum(impl.DrumRack, 1, 20, 0), drum(impl.DrumRack, 17, 20, 0), drum(impl.DrumRack, 0, 20, 0), drum(impl.DrumRack, -10, 20, 0),
		drum(impl.DrumRack, 10, 9, 0), drum(impl.DrumRack, 10, 61, 0), drum(impl.DrumRack, 10, 0, 0), drum(impl.DrumRack, 10, -20, 0),
	}
	for _, kind := range []int64{impl.DrumStepped, impl.DrumPins} {
		list = append(list, drum(kind, 1, 20, 3), drum(kind, 17, 20, 3), drum(kind, 0, 20, 3), drum(kind, 10, 9, 1), drum(kind, 10, 61, 3),
			drum(kind, 10, 20, 0), drum(kind, 10, 20, -1), drum(kind, 10, 20, 13), drum(kind, 10, 10, 3), drum(kind, 16, 60, 47), drum(kind, 2, 2, 3))
	}
	for _, n := range []int64{math.MaxInt64, math.MinInt64, math.MinInt64 + 1, 1<<32 + 10, 1 << 62} {
		for _, kind := range []int64{impl.DrumStepped, impl.DrumPins, impl.DrumRack} {
			list = append(list, drum(kind, n, 20, 0), drum(kind, n, 20, 3), drum(kind, 10, n, 0), drum(kind, 10, n, 3), drum(kind, 10, n, n), drum(kind, 10, 20, n))
		}
		list = append(list, drum(n, 10, 20, 0), drum(n, 10, 20, 3), drum(n, n, n, n))
	}
	return list
}

// makesStep reports whether a drum makes a step for a digit at a time of the first turn. It does not look for the time of a step,
// but for what there is at a time: which tooth passes the wheel, or how far the rack has come.
func makesStep(d impl.Drum, digit, time int64) bool {
	tooth := time - d.First
	switch d.Kind {
	case impl.DrumStepped:
		return tooth >= d.Base-1-digit && tooth <= d.Base-2
	case impl.DrumPins:
		return tooth >= 0 && tooth < digit
	}
	return time*digit/d.Turn > (time-1)*digit/d.Turn
}

// stepsOfTurn returns the times of the first turn at which a step is made.
func stepsOfTurn(d impl.Drum, digit int64) []int64 {
	times := []int64{}
	for time := int64(1); time <= d.Turn; time++ {
		if makesStep(d, digit, time) {
			times = append(times, time)
		}
	}
	return times
}

// countedSteps lets a drum turn, and returns for each time from 0 to last the number of steps up to it.
func countedSteps(d impl.Drum, digit, last int64) []int64 {
	counts := []int64{0}
	at := int64(0) // the time in the present turn
	for time := int64(1); time <= last; time++ {
		at++
		if at > d.Turn {
			at = 1
		}
		count := counts[time-1]
		if makesStep(d, digit, at) {
			count++
		}
		counts = append(counts, count)
	}
	return counts
}

// randomDigits returns a register in which digits of all sizes are likely, the greatest one as well.
func randomDigits(random *rand.Rand, base int64, width int) impl.Register {
	r := impl.Register{Base: base}
	for range width {
		r.Digits = append(r.Digits, max(0, min(base-1, random.Int63n(base+2)-1)))
	}
	return r
}

// oddTimes are ordinary times, limits and extremes.
var oddTimes = []int64{0, 1, 3, 4, 20, 21, 43, impl.MaxTime - 1, impl.MaxTime, impl.MaxTime + 1, -1, math.MaxInt64, math.MinInt64}

var oddDigits = []int64{0, 1, 2, 5, 9, 10, 15, 16, -1, math.MaxInt64, math.MinInt64}

func TestPromise1Drums(t *testing.T) {
	for _, d := range append(someDrums(), invalidDrums()...) {
		purely(t, impl.ValidDrum, d)
		purely(t, impl.DrumLines, d)
		for _, digit := range oddDigits {
			purely(t, impl.StepTimes, d, digit)
			for _, time := range oddTimes {
				purely(t, impl.StepsBy, d, digit, time)
			}
			for _, broken := range []int64{0, 1, 256, 511, 512, 1<<15 - 1, 1 << 15, -1, math.MaxInt64, math.MinInt64} {
				purely(t, impl.BrokenSteps, d, digit, broken)
			}
		}
		for _, times := range [][]int64{nil, {}, {0}, {3}, {3, 4}, {10, 11}, {4, 3}, {math.MinInt64, math.MaxInt64}, make([]int64, 1000)} {
			purely(t, impl.DigitFor, d, times)
		}
	}
	for _, d := range append(invalidDrums()[:10], stepped, pins, rack) {
		for _, from := range oddTimes {
			for _, to := range oddTimes {
				purely(t, impl.StepsBetween, d, int64(7), from, to)
			}
		}
	}
	for _, kind := range append(oddDigits, oddNumbers...) {
		purely(t, impl.DrumName, kind)
	}
}

func TestPromise1DrumsWithRegisters(t *testing.T) {
	drums := []impl.Drum{stepped, pins, rack, drum(impl.DrumStepped, 2, 2, 1), drum(impl.DrumPins, 16, 60, 46), {}, drum(4, 10, 20, 3)}
	for _, d := range drums {
		for _, r := range append(someRegisters(), validRegisters()...) {
			purely(t, impl.BusiestTime, d, r)
			purely(t, impl.TurnDrums, d, r, r, int64(17))
		}
		for _, wheels := range someRegisters() {
			for _, setting := range someRegisters() {
				for _, time := range []int64{0, 43, impl.MaxTime, impl.MaxTime + 1, -1, math.MinInt64} {
					purely(t, impl.TurnDrums, d, wheels, setting, time)
				}
			}
		}
	}
}

func TestConstantsOfDrums(t *testing.T) {
	isResult(t, "kinds and limits", all(impl.DrumStepped, impl.DrumPins, impl.DrumRack, impl.MaxTurn, impl.MaxTime), 1, 2, 3, 60, 100000)
}

func TestValidDrum(t *testing.T) {
	for _, d := range allDrums() {
		if !impl.ValidDrum(d) {
			t.Errorf("%+v is valid", d)
		}
	}
	for _, d := range invalidDrums() {
		if impl.ValidDrum(d) {
			t.Errorf("%+v is not valid", d)
		}
	}
	valid := map[impl.Drum]bool{}
	for _, d := range allDrums() {
		valid[d] = true
	}
	for kind := int64(-1); kind <= 5; kind++ {
		for base := int64(-1); base <= 18; base++ {
			for turn := int64(-1); turn <= 62; turn++ {
				for first := int64(-2); first <= 63; first++ {
					d := drum(kind, base, turn, first)
					if got := impl.ValidDrum(d); got != valid[d] {
						t.Errorf("%+v: valid is %v", d, got)
					}
				}
			}
		}
	}
}

func TestDrumName(t *testing.T) {
	for kind, want := range map[int64]string{
		1: "stepped", 2: "pins", 3: "rack", 0: "", 4: "", 5: "", -1: "", -3: "", math.MaxInt64: "", math.MinInt64: "", 1<<32 + 1: "",
	} {
		if got := impl.DrumName(kind); got != want {
			t.Errorf("DrumName(%d) is %q, want %q", kind, got, want)
		}
	}
}

func TestInvalidDrumsAreRejected(t *testing.T) {
	invalid := int64(impl.ErrInvalid)
	right, none := reg(10, 3, 7), impl.Register{}
	for _, bad := range invalidDrums() {
		isResult(t, "lines", purely(t, impl.DrumLines, bad), []string(nil), invalid)
		for _, times := range [][]int64{nil, {}, {3}, make([]int64, 20)} { // ErrInvalid comes before ErrNotFound
			isResult(t, "digit", purely(t, impl.DigitFor, bad, times), int64(0), invalid)
		}
		for _, n := range []int64{0, 2, -1, 16, impl.MaxTime + 1, math.MinInt64} { // before ErrRange, and before ErrState for racks
			isResult(t, "times", purely(t, impl.StepTimes, bad, n), []int64(nil), invalid)
			isResult(t, "steps by a time", purely(t, impl.StepsBy, bad, n, n), int64(0), invalid)
			isResult(t, "steps between times", purely(t, impl.StepsBetween, bad, int64(2), n, int64(1)), int64(0), invalid)
			isResult(t, "steps with broken teeth", purely(t, impl.BrokenSteps, bad, int64(2), n), int64(0), invalid)
			isResult(t, "wheels", purely(t, impl.TurnDrums, bad, right, right, n), none, invalid)
		}
		for _, r := range []impl.Register{right, reg(3, 1, 2), reg(10, 10), none} { // before ErrState
			isResult(t, "busiest time", purely(t, impl.BusiestTime, bad, r), int64(0), int64(0), invalid)
			isResult(t, "wheels", purely(t, impl.TurnDrums, bad, r, right, int64(4)), none, invalid)
			isResult(t, "wheels", purely(t, impl.TurnDrums, bad, right, r, int64(4)), none, invalid)
		}
	}
}

func TestInvalidRegistersOnDrumsAreRejected(t *testing.T) {
	invalid := int64(impl.ErrInvalid)
	right, other, none := reg(10, 3, 7), reg(3, 1, 2), impl.Register{}
	for _, bad := range invalidRegisters() {
		for _, d := range []impl.Drum{stepped, pins, rack, drum(impl.DrumPins, 2, 20, 3)} {
			isResult(t, "busiest time", purely(t, impl.BusiestTime, d, bad), int64(0), int64(0), invalid)
			for _, time := range []int64{0, 4, -1, impl.MaxTime + 1} { // ErrInvalid comes before ErrState and before ErrRange
				for _, good := range []impl.Register{right, other, bad} {
					isResult(t, "wheels", purely(t, impl.TurnDrums, d, bad, good, time), none, invalid)
					isResult(t, "wheels", purely(t, impl.TurnDrums, d, good, bad, time), none, invalid)
				}
			}
		}
	}
}

func TestStepTimes(t *testing.T) {
	for _, c := range []struct {
		d     impl.Drum
		digit int64
		want  []int64
		code  int64
	}{
		{pins, 2, []int64{3, 4}, impl.OK},
		{stepped, 2, []int64{10, 11}, impl.OK},
		{rack, 2, []int64{10, 20}, impl.OK},
		{pins, 0, []int64{}, impl.OK},
		{stepped, 0, []int64{}, impl.OK},
		{rack, 0, []int64{}, impl.OK},
		{pins, 1, []int64{3}, impl.OK},
		{stepped, 1, []int64{11}, impl.OK},
		{rack, 1, []int64{20}, impl.OK},
		{rack, 3, []int64{7, 14, 20}, impl.OK}, // 6 2/3, 13 1/3, 20
		{rack, 7, []int64{3, 6, 9, 12, 15, 18, 20}, impl.OK},
		{pins, 9, []int64{3, 4, 5, 6, 7, 8, 9, 10, 11}, impl.OK},
		{stepped, 9, []int64{3, 4, 5, 6, 7, 8, 9, 10, 11}, impl.OK}, // for the greatest digit, all teeth
		{rack, 9, []int64{3, 5, 7, 9, 12, 14, 16, 18, 20}, impl.OK},
		{drum(impl.DrumPins, 10, 20, 12), 9, []int64{12, 13, 14, 15, 16, 17, 18, 19, 20}, impl.OK}, // up to the end of the turn
		{drum(impl.DrumStepped, 10, 20, 12), 1, []int64{20}, impl.OK},
		{drum(impl.DrumPins, 2, 2, 1), 1, []int64{1}, impl.OK},
		{drum(impl.DrumStepped, 2, 2, 2), 1, []int64{2}, impl.OK},
		{drum(impl.DrumRack, 16, 16, 0), 15, []int64{2, 3, 4, 5, 6, 7, 8, 9, 10, 11, 12, 13, 14, 15, 16}, impl.OK},
		{drum(impl.DrumRack, 16, 60, 0), 8, []int64{8, 15, 23, 30, 38, 45, 53, 60}, impl.OK},
		{pins, 10, nil, impl.ErrRange},
		{stepped, 10, nil, impl.ErrRange},
		{rack, 10, nil, impl.ErrRange},
		{drum(impl.DrumPins, 2, 20, 3), 2, nil, impl.ErrRange},
		{drum(impl.DrumRack, 16, 60, 0), 16, nil, impl.ErrRange},
		{pins, -1, nil, impl.ErrRange},
		{rack, -1, nil, impl.ErrRange},
		{stepped, math.MaxInt64, nil, impl.ErrRange},
		{stepped, math.MinInt64, nil, impl.ErrRange},
	} {
		isResult(t, "times for "+impl.Decimal(c.digit), purely(t, impl.StepTimes, c.d, c.digit), c.want, c.code)
	}
}

// TestPromise5 lets every drum turn with every digit.
func TestPromise5(t *testing.T) {
	for _, d := range allDrums() {
		for digit := range d.Base {
			times, code := impl.StepTimes(d, digit)
			if code != impl.OK || !slices.Equal(times, stepsOfTurn(d, digit)) || int64(len(times)) != digit {
				t.Fatalf("%+v: times for %d are %v, %d", d, digit, times, code)
			}
			for _, turn := range []int64{0, 1, 2, impl.MaxTime/d.Turn - 1} {
				steps, code := impl.StepsBetween(d, digit, turn*d.Turn, (turn+1)*d.Turn)
				if steps != digit || code != impl.OK {
					t.Fatalf("%+v: turn %d has %d steps for %d, %d", d, turn, steps, digit, code)
				}
			}
		}
	}
}

// TestPromise5OnWheels has turns of whole drums: each of them adds the setting to the wheels, digit by digit.
func TestPromise5OnWheels(t *testing.T) {
	random := rand.New(rand.NewSource(5))
	for _, d := range someDrums() {
		for width := 1; width <= 9; width++ {
			wheels, setting := randomDigits(random, d.Base, width), randomDigits(random, d.Base, width)
			want := wheels
			for turns := range int64(5) {
				got, code := impl.TurnDrums(d, wheels, setting, turns*d.Turn)
				isResult(t, "wheels after turns", all(got, code), want, int64(impl.OK))
				want = reg(d.Base, slices.Clone(want.Digits)...)
				for k, digit := range setting.Digits {
					want.Digits[k] = (want.Digits[k] + digit) % d.Base
				}
			}
		}
	}
}

func TestStepsBy(t *testing.T) {
	for _, c := range []struct {
		d                 impl.Drum
		digit, time, want int64
		code              int64
	}{
		{pins, 2, 43, 5, impl.OK}, // two turns, and the first step of the third one
		{pins, 2, 0, 0, impl.OK},
		{pins, 2, 2, 0, impl.OK},
		{pins, 2, 3, 1, impl.OK},
		{pins, 2, 4, 2, impl.OK},
		{pins, 2, 20, 2, impl.OK},
		{pins, 2, 22, 2, impl.OK},
		{pins, 2, 23, 3, impl.OK},
		{stepped, 2, 9, 0, impl.OK},
		{stepped, 2, 10, 1, impl.OK},
		{stepped, 2, 11, 2, impl.OK},
		{rack, 3, 19, 2, impl.OK},
		{rack, 3, 20, 3, impl.OK}, // the last step is made at the end of the turn
		{rack, 3, 21, 3, impl.OK},
		{rack, 3, 40, 6, impl.OK},
		{rack, 0, 100000, 0, impl.OK},
		{pins, 0, 100000, 0, impl.OK},
		{rack, 9, 100000, 45000, impl.OK}, // the last time that there is
		{rack, 9, 99999, 44999, impl.OK},
		{drum(impl.DrumPins, 2, 2, 1), 1, 99999, 50000, impl.OK},
		{drum(impl.DrumPins, 2, 2, 2), 1, 99999, 49999, impl.OK},
		{pins, 2, 100001, 0, impl.ErrRange},
		{pins, 2, -1, 0, impl.ErrRange},
		{pins, 2, math.MaxInt64, 0, impl.ErrRange},
		{pins, 2, math.MinInt64, 0, impl.ErrRange},
		{pins, 10, 43, 0, impl.ErrRange},
		{rack, 10, 0, 0, impl.ErrRange},
		{pins, -1, 43, 0, impl.ErrRange},
		{rack, math.MinInt64, 43, 0, impl.ErrRange},
		{pins, -1, -1, 0, impl.ErrRange},
	} {
		isResult(t, "steps by "+impl.Decimal(c.time), purely(t, impl.StepsBy, c.d, c.digit, c.time), c.want, c.code)
	}
	for _, d := range someDrums() {
		for digit := range d.Base {
			for time, want := range countedSteps(d, digit, 4*d.Turn+1) {
				if got, code := impl.StepsBy(d, digit, int64(time)); got != want || code != impl.OK {
					t.Fatalf("%+v: %d steps for %d by %d, %d; want %d", d, got, digit, time, code, want)
				}
			}
		}
	}
}

// TestStepsByAllTimes has the steps at all times that there are.
func TestStepsByAllTimes(t *testing.T) {
	for _, d := range []impl.Drum{stepped, pins, rack, drum(impl.DrumRack, 16, 59, 0), drum(impl.DrumPins, 7, 7, 2), drum(impl.DrumStepped, 3, 60, 59)} {
		digit := d.Base - 1
		for time, want := range countedSteps(d, digit, impl.MaxTime) {
			if got, code := impl.StepsBy(d, digit, int64(time)); got != want || code != impl.OK {
				t.Fatalf("%+v: %d steps for %d by %d, %d; want %d", d, got, digit, time, code, want)
			}
		}
	}
}

func TestStepsBetween(t *testing.T) {
	for _, c := range []struct {
		d                     impl.Drum
		digit, from, to, want int64
		code                  int64
	}{
		{rack, 3, 7, 20, 2, impl.OK}, // the step at the first time does not count, that at the last one does
		{rack, 3, 6, 20, 3, impl.OK},
		{rack, 3, 6, 19, 2, impl.OK},
		{rack, 3, 20, 20, 0, impl.OK},
		{rack, 3, 19, 20, 1, impl.OK},
		{rack, 3, 20, 40, 3, impl.OK},
		{rack, 3, 0, 0, 0, impl.OK},
		{pins, 2, 2, 3, 1, impl.OK},
		{pins, 2, 3, 23, 2, impl.OK},
		{pins, 2, 4, 22, 0, impl.OK},
		{rack, 9, 0, 100000, 45000, impl.OK},
		{rack, 9, 100000, 100000, 0, impl.OK},
		{rack, 9, 99999, 100000, 1, impl.OK},
		{rack, 3, 20, 19, 0, impl.ErrRange},
		{rack, 3, 100000, 0, 0, impl.ErrRange},
		{rack, 3, -1, 20, 0, impl.ErrRange},
		{rack, 3, 7, 100001, 0, impl.ErrRange},
		{rack, 3, 100001, 100001, 0, impl.ErrRange},
		{rack, 3, 100001, 100000, 0, impl.ErrRange},
		{rack, 3, 0, -1, 0, impl.ErrRange},
		{rack, 3, -1, -1, 0, impl.ErrRange},
		{rack, 3, math.MinInt64, math.MaxInt64, 0, impl.ErrRange},
		{rack, 3, math.MaxInt64, math.MinInt64, 0, impl.ErrRange},
		{rack, 10, 7, 20, 0, impl.ErrRange},
		{rack, -1, 7, 20, 0, impl.ErrRange},
		{rack, 10, 20, 20, 0, impl.ErrRange},
	} {
		what := "steps from " + impl.Decimal(c.from) + " to " + impl.Decimal(c.to)
		isResult(t, what, purely(t, impl.StepsBetween, c.d, c.digit, c.from, c.to), c.want, c.code)
	}
	random := rand.New(rand.NewSource(55))
	for _, d := range someDrums() {
		digit := random.Int63n(d.Base)
		counts := countedSteps(d, digit, 3*d.Turn)
		for from := range counts {
			for to := from; to < len(counts); to += 1 + from%3 {
				want := counts[to] - counts[from]
				if got, code := impl.StepsBetween(d, digit, int64(from), int64(to)); got != want || code != impl.OK {
					t.Fatalf("%+v: %d steps for %d from %d to %d, %d; want %d", d, got, digit, from, to, code, want)
				}
			}
		}
	}
}

func TestDigitFor(t *testing.T) {
	for _, c := range []struct {
		d     impl.Drum
		times []int64
		want  int64
		code  int64
	}{
		{rack, []int64{7, 14, 20}, 3, impl.OK},
		{pins, []int64{3, 4}, 2, impl.OK},
		{stepped, []int64{10, 11}, 2, impl.OK},
		{pins, nil, 0, impl.OK},
		{stepped, []int64{}, 0, impl.OK},
		{rack, nil, 0, impl.OK},
		{pins, []int64{3, 4, 5, 6, 7, 8, 9, 10, 11}, 9, impl.OK},
		{rack, []int64{20}, 1, impl.OK},
		{rack, []int64{7}, 0, impl.ErrNotFound},
		{rack, []int64{7, 14}, 0, impl.ErrNotFound},
		{rack, []int64{7, 14, 21}, 0, impl.ErrNotFound},
		{rack, []int64{6, 14, 20}, 0, impl.ErrNotFound},
		{rack, []int64{7, 14, 20, 27}, 0, impl.ErrNotFound}, // a step of the next turn
		{pins, []int64{4, 3}, 0, impl.ErrNotFound},
		{pins, []int64{10, 11}, 0, impl.ErrNotFound},
		{stepped, []int64{3, 4}, 0, impl.ErrNotFound},
		{pins, []int64{23, 24}, 0, impl.ErrNotFound},
		{pins, []int64{0}, 0, impl.ErrNotFound},
		{pins, []int64{3, 3}, 0, impl.ErrNotFound},
		{pins, []int64{3, 4, 5, 6, 7, 8, 9, 10, 11, 12}, 0, impl.ErrNotFound}, // as many as Base
		{stepped, []int64{2, 3, 4, 5, 6, 7, 8, 9, 10, 11}, 0, impl.ErrNotFound},
		{rack, []int64{2, 4, 6, 8, 10, 12, 14, 16, 18, 20}, 0, impl.ErrNotFound},
		{drum(impl.DrumPins, 2, 20, 3), []int64{3, 4}, 0, impl.ErrNotFound},
		{pins, make([]int64, 100000), 0, impl.ErrNotFound},
		{pins, []int64{math.MinInt64, math.MaxInt64}, 0, impl.ErrNotFound},
	} {
		isResult(t, "digit", purely(t, impl.DigitFor, c.d, c.times), c.want, c.code)
	}
	for _, d := range someDrums() {
		for digit := range d.Base {
			times := stepsOfTurn(d, digit)
			got, code := impl.DigitFor(d, times)
			isResult(t, "digit", all(got, code), digit, int64(impl.OK))
			for k := range times {
				wrong := slices.Clone(times)
				wrong[k]++ // two steps at a time, or one too late
				got, code := impl.DigitFor(d, wrong)
				if right := slices.Equal(wrong, stepsOfTurn(d, digit)); right || got != 0 || code != impl.ErrNotFound {
					t.Errorf("%+v: digit for %v is %d, %d", d, wrong, got, code)
				}
			}
		}
	}
}

func TestBrokenSteps(t *testing.T) {
	outOfRange, state := int64(impl.ErrRange), int64(impl.ErrState)
	for _, c := range []struct {
		d                         impl.Drum
		digit, broken, want, code int64
	}{
		{stepped, 2, 256, 1, impl.OK}, // the last tooth
		{stepped, 2, 128, 1, impl.OK},
		{stepped, 2, 384, 0, impl.OK},
		{stepped, 2, 127, 2, impl.OK}, // all other teeth
		{stepped, 2, 64, 2, impl.OK},
		{pins, 2, 256, 2, impl.OK},
		{pins, 2, 1, 1, impl.OK},
		{pins, 2, 2, 1, impl.OK},
		{pins, 2, 3, 0, impl.OK},
		{pins, 2, 4, 2, impl.OK},
		{pins, 2, 508, 2, impl.OK},
		{pins, 2, 0, 2, impl.OK},
		{stepped, 9, 0, 9, impl.OK},
		{stepped, 9, 511, 0, impl.OK},
		{pins, 9, 511, 0, impl.OK},
		{pins, 9, 341, 4, impl.OK},
		{pins, 0, 511, 0, impl.OK},
		{stepped, 0, 511, 0, impl.OK},
		{drum(impl.DrumPins, 2, 2, 1), 1, 1, 0, impl.OK},
		{drum(impl.DrumStepped, 2, 2, 1), 1, 0, 1, impl.OK},
		{drum(impl.DrumStepped, 16, 60, 46), 15, 1<<15 - 1, 0, impl.OK},
		{drum(impl.DrumStepped, 16, 60, 46), 1, 1 << 14, 0, impl.OK},
		{drum(impl.DrumStepped, 16, 60, 46), 1, 1 << 15, 0, outOfRange},
		{pins, 2, 512, 0, outOfRange}, // there is no tooth 9
		{stepped, 2, 512, 0, outOfRange},
		{pins, 2, 513, 0, outOfRange},
		{drum(impl.DrumPins, 2, 2, 1), 1, 2, 0, outOfRange},
		{pins, 2, 1 << 62, 0, outOfRange},
		{pins, 2, -1, 0, outOfRange},
		{stepped, 2, -256, 0, outOfRange},
		{pins, 2, math.MaxInt64, 0, outOfRange},
		{pins, 2, math.MinInt64, 0, outOfRange},
		{pins, 10, 1, 0, outOfRange},
		{stepped, -1, 1, 0, outOfRange},
		{rack, 2, 0, 0, state}, // racks have no teeth, not even if none is broken
		{rack, 2, 1, 0, state},
		{rack, 0, 0, 0, state},
		{rack, 9, 511, 0, state},
		{rack, 2, 512, 0, outOfRange}, // ErrRange comes before ErrState
		{rack, 2, -1, 0, outOfRange},
		{rack, 10, 1, 0, outOfRange},
		{rack, -1, 512, 0, outOfRange},
		{rack, 2, math.MinInt64, 0, outOfRange},
	} {
		isResult(t, "steps with broken teeth "+impl.Decimal(c.broken), purely(t, impl.BrokenSteps, c.d, c.digit, c.broken), c.want, c.code)
	}
}

// TestBrokenStepsOfAllSets takes the steps of all sets of broken teeth away: a tooth passes at the time First and its number.
func TestBrokenStepsOfAllSets(t *testing.T) {
	for base := int64(2); base <= 16; base++ {
		for _, d := range []impl.Drum{drum(impl.DrumStepped, base, base+5, 4), drum(impl.DrumPins, base, base+5, 4)} {
			for broken := int64(0); broken < 1<<(base-1); broken += 1 + base/13*6 {
				digit := broken % base
				want := int64(0)
				for _, time := range stepsOfTurn(d, digit) {
					if broken/(1<<(time-d.First))%2 == 0 {
						want++
					}
				}
				if got, code := impl.BrokenSteps(d, digit, broken); got != want || code != impl.OK {
					t.Fatalf("%+v: %d steps for %d with broken teeth %d, %d; want %d", d, got, digit, broken, code, want)
				}
			}
		}
	}
}

func TestBusiestTime(t *testing.T) {
	zeros := reg(10, 0, 0, 0)
	for _, c := range []struct {
		d                impl.Drum
		r                impl.Register
		time, most, code int64
	}{
		{pins, reg(10, 2, 1, 3, 0), 3, 3, impl.OK},
		{stepped, reg(10, 2, 1, 3, 0), 11, 3, impl.OK},
		{rack, reg(10, 2, 1, 3, 0), 20, 3, impl.OK},
		{rack, reg(10, 4, 2), 10, 2, impl.OK}, // at 10 and at 20
		{pins, reg(10, 9, 9), 3, 2, impl.OK},  // at all times from 3 on
		{stepped, reg(10, 9), 3, 1, impl.OK},
		{stepped, reg(10, 4), 8, 1, impl.OK},
		{rack, reg(10, 3), 7, 1, impl.OK},
		{rack, reg(10, 3, 4, 7), 20, 3, impl.OK},
		{rack, reg(10, 6, 7), 20, 2, impl.OK}, // no time but the last one is that of two steps
		{pins, zeros, 0, 0, impl.OK},
		{stepped, zeros, 0, 0, impl.OK},
		{rack, zeros, 0, 0, impl.OK},
		{pins, reg(10, 0), 0, 0, impl.OK},
		{pins, reg(10, 0, 0, 1), 3, 1, impl.OK},
		{drum(impl.DrumPins, 2, 2, 1), reg(2, slices.Repeat([]int64{1}, 16)...), 1, 16, impl.OK},
		{drum(impl.DrumStepped, 2, 2, 2), reg(2, slices.Repeat([]int64{1}, 16)...), 2, 16, impl.OK},
		{pins, reg(9, 1), 0, 0, impl.ErrState},
		{pins, reg(11, 1), 0, 0, impl.ErrState},
		{pins, reg(2, 0), 0, 0, impl.ErrState},
		{rack, reg(16, 1), 0, 0, impl.ErrState},
	} {
		isResult(t, "busiest time", purely(t, impl.BusiestTime, c.d, c.r), c.time, c.most, c.code)
	}
}

func TestBusiestTimeOfManyDrums(t *testing.T) {
	random := rand.New(rand.NewSource(555))
	for _, d := range someDrums() {
		for width := 1; width <= 9; width++ {
			r := randomDigits(random, d.Base, width)
			at, most := int64(0), int64(0)
			for time := int64(1); time <= d.Turn; time++ {
				count := int64(0)
				for _, digit := range r.Digits {
					if makesStep(d, digit, time) {
						count++
					}
				}
				if count > most {
					at, most = time, count
				}
			}
			gotAt, gotMost, code := impl.BusiestTime(d, r)
			isResult(t, "busiest time", all(gotAt, gotMost, code), at, most, int64(impl.OK))
		}
	}
}

func TestTurnDrums(t *testing.T) {
	none := impl.Register{}
	great := reg(10, 0, 0, 0, 0, 0, 0, 0, 0, 0, 0, 0, 0, 1) // MaxValue
	nines := reg(10, 9, 9, 9, 9, 9, 9, 9, 9, 9, 9, 9, 9, 0)
	one := reg(10, 1, 0, 0, 0, 0, 0, 0, 0, 0, 0, 0, 0, 0)
	zero := reg(10, 0, 0, 0, 0, 0, 0, 0, 0, 0, 0, 0, 0, 0)
	for _, c := range []struct {
		d               impl.Drum
		wheels, setting impl.Register
		time            int64
		want            impl.Register
		code            int64
	}{
		{pins, reg(10, 8, 9, 0, 0), reg(10, 2, 1, 3, 0), 4, reg(10, 0, 0, 2, 0), impl.OK}, // no carries
		{pins, reg(10, 8, 9, 0, 0), reg(10, 2, 1, 3, 0), 0, reg(10, 8, 9, 0, 0), impl.OK},
		{pins, reg(10, 8, 9, 0, 0), reg(10, 2, 1, 3, 0), 3, reg(10, 9, 0, 1, 0), impl.OK},
		{pins, reg(10, 8, 9, 0, 0), reg(10, 2, 1, 3, 0), 20, reg(10, 0, 0, 3, 0), impl.OK},
		{pins, reg(10, 8, 9, 0, 0), reg(10, 2, 1, 3, 0), 40, reg(10, 2, 1, 6, 0), impl.OK},
		{stepped, reg(10, 8, 9, 0, 0), reg(10, 2, 1, 3, 0), 10, reg(10, 9, 9, 2, 0), impl.OK},
		{rack, reg(10, 8, 9, 0, 0), reg(10, 2, 1, 3, 0), 10, reg(10, 9, 9, 1, 0), impl.OK},
		{rack, reg(10, 8, 9, 0, 0), reg(10, 2, 1, 3, 0), 100000, reg(10, 8, 9, 0, 0), impl.OK},
		{drum(impl.DrumPins, 2, 3, 1), reg(2, 0), reg(2, 1), 99999, reg(2, 1), impl.OK}, // 33333 steps
		{drum(impl.DrumPins, 2, 3, 1), reg(2, 0), reg(2, 1), 100000, reg(2, 0), impl.OK},
		{pins, zero, great, 20, great, impl.OK}, // the greatest value
		{pins, nines, great, 0, nines, impl.OK},
		{pins, nines, great, 2, nines, impl.OK},
		{pins, nines, great, 3, none, impl.ErrFull},
		{pins, nines, great, 20, none, impl.ErrFull},
		{pins, nines, great, 200, nines, impl.OK}, // the last wheel has come around
		{pins, great, great, 20, none, impl.ErrFull},
		{pins, great, one, 20, none, impl.ErrFull},
		{pins, great, one, 200, great, impl.OK},
		{pins, great, zero, 100000, great, impl.OK},
		{pins, reg(10, 8, 9), reg(10, 2, 1, 3), 4, none, impl.ErrState},
		{pins, reg(10, 8, 9, 0), reg(10, 2, 1), 4, none, impl.ErrState},
		{pins, reg(9, 8, 8), reg(9, 2, 1), 4, none, impl.ErrState},
		{pins, reg(10, 8, 9), reg(9, 2, 1), 4, none, impl.ErrState},
		{pins, reg(9, 8, 8), reg(10, 2, 1), 4, none, impl.ErrState},
		{rack, reg(16, 8), reg(16, 2), 0, none, impl.ErrState},
		{pins, reg(9, 8, 8), reg(9, 2, 1), -1, none, impl.ErrState}, // ErrState comes before ErrRange
		{pins, reg(10, 8, 9), reg(10, 2), 100001, none, impl.ErrState},
		{pins, reg(10, 8), reg(10, 2), 100001, none, impl.ErrRange},
		{pins, reg(10, 8), reg(10, 2), -1, none, impl.ErrRange},
		{pins, reg(10, 8), reg(10, 2), math.MaxInt64, none, impl.ErrRange},
		{pins, reg(10, 8), reg(10, 2), math.MinInt64, none, impl.ErrRange},
		{pins, great, great, 100001, none, impl.ErrRange}, // and ErrRange before ErrFull
		{pins, great, great, -20, none, impl.ErrRange},
	} {
		isResult(t, "wheels at "+impl.Decimal(c.time), purely(t, impl.TurnDrums, c.d, c.wheels, c.setting, c.time), c.want, c.code)
	}
}

// TestTurnDrumsAtAllTimes turns the wheels step by step.
func TestTurnDrumsAtAllTimes(t *testing.T) {
	random := rand.New(rand.NewSource(5555))
	for _, d := range someDrums() {
		for _, width := range []int{1, 3, 8, 16} {
			wheels, setting := randomDigits(random, d.Base, width), randomDigits(random, d.Base, width)
			if !impl.ValidRegister(wheels) || !impl.ValidRegister(setting) {
				continue
			}
			turned := reg(d.Base, slices.Clone(wheels.Digits)...)
			for time := int64(0); time <= 2*d.Turn+1; time++ {
				for k, digit := range setting.Digits {
					if time > 0 && makesStep(d, digit, (time-1)%d.Turn+1) {
						turned.Digits[k] = (turned.Digits[k] + 1) % d.Base
					}
				}
				got, code := impl.TurnDrums(d, wheels, setting, time)
				if impl.ValidRegister(turned) {
					isResult(t, "wheels at "+impl.Decimal(time), all(got, code), turned, int64(impl.OK))
				} else {
					isResult(t, "wheels at "+impl.Decimal(time), all(got, code), impl.Register{}, int64(impl.ErrFull))
				}
			}
		}
	}
}

func TestDrumLines(t *testing.T) {
	for _, c := range []struct {
		d    impl.Drum
		want string
	}{
		{drum(impl.DrumStepped, 3, 4, 2), ".... ..#. .##."},
		{drum(impl.DrumPins, 3, 4, 2), ".... .#.. .##."},
		{drum(impl.DrumRack, 3, 4, 0), ".... ...# .#.#"},
		{drum(impl.DrumRack, 5, 5, 0), "..... ....# ..#.# .#.## .####"},
		{drum(impl.DrumStepped, 5, 5, 1), "..... ...#. ..##. .###. ####."},
		{drum(impl.DrumStepped, 5, 5, 2), "..... ....# ...## ..### .####"},
		{drum(impl.DrumPins, 5, 5, 2), "..... .#... .##.. .###. .####"},
		{drum(impl.DrumPins, 2, 2, 1), ".. #."},
		{drum(impl.DrumRack, 2, 2, 0), ".. .#"},
	} {
		isResult(t, "lines", purely(t, impl.DrumLines, c.d), strings.Fields(c.want), int64(impl.OK))
	}
	for _, d := range allDrums() {
		lines, code := impl.DrumLines(d)
		if code != impl.OK || int64(len(lines)) != d.Base {
			t.Fatalf("%+v: %d lines, %d", d, len(lines), code)
		}
		for digit, line := range lines {
			times := stepsOfTurn(d, int64(digit))
			if int64(len(line)) != d.Turn || strings.Count(line, "#") != len(times) || strings.Trim(line, "#.") != "" {
				t.Fatalf("%+v: line %d is %q", d, digit, line)
			}
			for _, time := range times {
				if line[time-1] != '#' {
					t.Fatalf("%+v: line %d is %q, without a step at %d", d, digit, line, time)
				}
			}
		}
	}
}
