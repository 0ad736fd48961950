package tests

import (
	"fmt"
	"math"
	"math/big"
	"math/rand"
	"slices"
	"testing"

	"loop.example/g00930/impl"
)

// accumulatorShape is a base and a width with which there are accumulators.
type accumulatorShape struct {
	base, width int64
	count       int64 // of the registers
}

// widest has the greatest width of accumulators of each base.
var widest = map[int64]int64{2: 16, 3: 16, 4: 16, 5: 16, 6: 15, 7: 14, 8: 13, 9: 12, 10: 12, 11: 11, 12: 11, 13: 10, 14: 10, 15: 10, 16: 9}

// accumulatorShapes has all of them.
func accumulatorShapes() []accumulatorShape {
	var list []accumulatorShape
	for base := int64(2); base <= impl.MaxBase; base++ {
		count := int64(1)
		for width := int64(1); width <= widest[base]; width++ {
			count *= base
			list = append(list, accumulatorShape{base, width, count})
		}
	}
	return list
}

func (s accumulatorShape) low() int64 { return -(s.count / 2) }

func (s accumulatorShape) high() int64 { return (s.count - 1) / 2 }

// numbers has numbers of the accumulators: those at the limits, those about 0, and some others.
func (s accumulatorShape) numbers(random *rand.Rand) []int64 {
	list := []int64{s.low(), s.low() + 1, -1, 0, 1, s.high() - 1, s.high()}
	for range 3 {
		list = append(list, s.low()+random.Int63n(s.count))
	}
	return slices.DeleteFunc(list, func(n int64) bool { return n < s.low() || n > s.high() })
}

// addends has numbers that may be added, among them many that make the bell ring.
func (s accumulatorShape) addends(random *rand.Rand) []int64 {
	list := []int64{0, 1, s.count / 2, s.count/2 + 1, s.count - 1, s.count, s.count + 1, 2 * s.count, 3*s.count - 1, impl.MaxValue - 1, impl.MaxValue}
	for range 3 {
		list = append(list, random.Int63n(s.count), random.Int63n(impl.MaxValue+1))
	}
	for _, n := range list {
		list = append(list, -n)
	}
	return slices.DeleteFunc(list, func(n int64) bool { return n < -impl.MaxValue || n > impl.MaxValue })
}

// digits returns the register that shows a number, or the one that differs from it by a multiple of count.
func (s accumulatorShape) digits(number int64) impl.Register {
	r, _ := bigDigits(s.base, int(s.width), big.NewInt(number))
	return r
}

// turned adds two numbers as wheels do: beyond the greatest number, they go on with the least one.
func (s accumulatorShape) turned(number, addend int64) (int64, bool) {
	low, count := big.NewInt(s.low()), big.NewInt(s.count)
	sum := new(big.Int).Add(big.NewInt(number), big.NewInt(addend))
	place := new(big.Int).Mod(new(big.Int).Sub(sum, low), count)
	shown := place.Add(place, low)
	return shown.Int64(), shown.Cmp(sum) != 0
}

// shapeOf returns the shape of an accumulator.
func shapeOf(r impl.Register) accumulatorShape {
	count := int64(1)
	for range r.Digits {
		count *= r.Base
	}
	return accumulatorShape{r.Base, int64(len(r.Digits)), count}
}

// numberShown returns the number of an accumulator.
func numberShown(r impl.Register) int64 {
	value, s := bigValue(r).Int64(), shapeOf(r)
	if value <= s.high() {
		return value
	}
	return value - s.count
}

// tooWide are valid registers that are no accumulators: with their bases and widths there are other registers that are not valid.
func tooWide() []impl.Register {
	var list []impl.Register
	for base := int64(2); base <= impl.MaxBase; base++ {
		for width := widest[base] + 1; width <= impl.MaxWidth; width++ {
			for _, value := range []int64{0, 1, 12345, impl.MaxValue} {
				r, _ := bigDigits(base, int(width), big.NewInt(value))
				list = append(list, r)
			}
		}
	}
	return list
}

// isAccumulator reports whether a register is one.
func isAccumulator(r impl.Register) bool {
	return impl.ValidRegister(r) && int64(len(r.Digits)) <= widest[r.Base]
}

// addNumber is one number for AccumulateAll.
func addNumber(r impl.Register, number int64) (impl.Register, []int64, int64) {
	return impl.AccumulateAll(r, []int64{number})
}

func TestPromise1Accumulators(t *testing.T) {
	registers := slices.Concat(validRegisters(), invalidRegisters(), tooWide())
	for i, r := range registers {
		purely(t, impl.NumberOf, r)
		purely(t, impl.NegateAccumulator, r)
		purely(t, impl.ClearTurns, r)
		purely(t, impl.AccumulatorText, r)
		for j, n := range oddNumbers {
			if (i+j)%3 == 0 {
				purely(t, impl.AccumulateNumber, r, n)
				purely(t, impl.AccumulateAll, r, []int64{n, 3, n, -n})
				purely(t, impl.WidenAccumulator, r, n)
			}
		}
		purely(t, impl.AccumulateAll, r, []int64(nil))
		purely(t, impl.AccumulateAll, r, []int64{})
		purely(t, impl.AccumulateAll, r, []int64{1, -500, impl.MaxValue, -impl.MaxValue, 7})
	}
	for i, a := range registers {
		for j, b := range registers {
			if (i+j)%61 == 0 || i == j {
				purely(t, impl.TransferTo, a, b)
			}
		}
	}
	for _, a := range someRegisters() {
		for _, b := range someRegisters() {
			purely(t, impl.TransferTo, a, b)
		}
	}
	for _, base := range oddNumbers {
		for _, width := range oddNumbers {
			purely(t, impl.AccumulatorRange, base, width)
			for _, n := range oddNumbers {
				purely(t, impl.SetAccumulator, base, width, n)
			}
		}
	}
}

// TestResultsOfTheSameRegister passes a register twice, and looks whether the results share memory.
func TestResultsOfTheSameRegister(t *testing.T) {
	r := reg(10, 8, 9, 9)
	cleared, sum, bell, code := impl.TransferTo(r, r)
	isResult(t, "transfer", all(cleared, sum, bell, code), reg(10, 0, 0, 0), reg(10, 6, 9, 9), false, int64(impl.OK))
	isResult(t, "the register", all(r), reg(10, 8, 9, 9))
	zero := reg(10, 0, 0, 0)
	cleared, sum, _, _ = impl.TransferTo(zero, zero)
	same, _ := impl.WidenAccumulator(zero, 3)
	none, _, _ := impl.AccumulateAll(zero, nil)
	back, _ := impl.NegateAccumulator(zero)
	for i, x := range []impl.Register{cleared, sum, same, none, back} {
		x.Digits[0] = int64(i + 1)
		isResult(t, "the register", all(zero), reg(10, 0, 0, 0))
	}
	isResult(t, "results", all(cleared, sum, same, none, back), reg(10, 1, 0, 0), reg(10, 2, 0, 0), reg(10, 3, 0, 0), reg(10, 4, 0, 0), reg(10, 5, 0, 0))
}

func TestAccumulatorRange(t *testing.T) {
	for _, c := range []struct{ base, width, low, high int64 }{
		{10, 3, -500, 499}, {10, 1, -5, 4}, {10, 12, -500000000000, 499999999999},
		{2, 1, -1, 0}, {2, 2, -2, 1}, {2, 16, -32768, 32767}, {16, 1, -8, 7}, {16, 9, -34359738368, 34359738367},
		{3, 1, -1, 1}, {3, 2, -4, 4}, {3, 3, -13, 13}, {3, 16, -21523360, 21523360},
		{5, 1, -2, 2}, {5, 2, -12, 12}, {5, 16, -76293945312, 76293945312}, {7, 1, -3, 3}, {7, 14, -339111536424, 339111536424},
		{9, 1, -4, 4}, {9, 12, -141214768240, 141214768240}, {11, 2, -60, 60}, {13, 1, -6, 6}, {15, 1, -7, 7}, {15, 10, -288325195312, 288325195312},
		{6, 1, -3, 2}, {6, 15, -235092492288, 235092492287}, {12, 11, -371504185344, 371504185343}, {14, 10, -144627327488, 144627327487},
	} {
		isResult(t, fmt.Sprint(c.base, c.width), purely(t, impl.AccumulatorRange, c.base, c.width), c.low, c.high, int64(impl.OK))
	}
}

// TestAccumulatorRangeOfAllShapes checks the limits by the greatest registers: all registers must be valid.
func TestAccumulatorRangeOfAllShapes(t *testing.T) {
	for base := int64(-1); base <= 18; base++ {
		for width := int64(-1); width <= 18; width++ {
			greatest := impl.Register{Base: base}
			for range width {
				greatest.Digits = append(greatest.Digits, base-1)
			}
			if !impl.ValidRegister(greatest) {
				isResult(t, fmt.Sprint(base, width), all(impl.AccumulatorRange(base, width)), int64(0), int64(0), int64(impl.ErrRange))
				isResult(t, fmt.Sprint(base, width), all(impl.SetAccumulator(base, width, 0)), impl.Register{}, int64(impl.ErrRange))
				continue
			}
			s := shapeOf(greatest)
			isResult(t, fmt.Sprint(base, width), all(impl.AccumulatorRange(base, width)), s.low(), s.high(), int64(impl.OK))
			if s.high()-s.low()+1 != s.count || s.count != bigValue(greatest).Int64()+1 || width > widest[base] {
				t.Errorf("base %d, width %d: the numbers are not as many as the registers", base, width)
			}
		}
	}
}

var noShapes = [][2]int64{
	{10, 13}, {10, 16}, {16, 10}, {16, 16}, {9, 13}, {7, 15}, {6, 16}, {15, 11}, {8, 14}, {8, 16}, {4, 17}, {2, 17}, {3, 17}, // 16 to the 16 is 2 to the 64
	{10, 0}, {10, -1}, {1, 1}, {0, 1}, {0, 0}, {-10, 3}, {-2, 2}, {17, 1}, {17, 3}, {math.MaxInt64, 1}, {math.MinInt64, 1}, {10, math.MaxInt64}, {10, math.MinInt64},
	{1<<32 + 10, 3}, {10, 1<<32 + 3}, {2, 64}, {2, 63}, {1, 1 << 40}, {0, math.MaxInt64}, {2, math.MaxInt64},
}

func TestNoAccumulators(t *testing.T) {
	for _, s := range noShapes {
		isResult(t, fmt.Sprint(s), purely(t, impl.AccumulatorRange, s[0], s[1]), int64(0), int64(0), int64(impl.ErrRange))
		for _, number := range []int64{0, 1, -1, 500, impl.MaxValue, impl.MaxValue + 1, math.MaxInt64, math.MinInt64} { // ErrRange comes before ErrFull
			isResult(t, fmt.Sprint(s, number), purely(t, impl.SetAccumulator, s[0], s[1], number), impl.Register{}, int64(impl.ErrRange))
		}
	}
}

func TestSetAccumulator(t *testing.T) {
	for _, c := range []struct {
		base, width, number int64
		want                string // none for ErrFull
	}{
		{10, 3, -2, "10:998"}, {10, 3, 2, "10:002"}, {10, 3, 0, "10:000"}, {10, 3, -1, "10:999"}, {10, 3, 499, "10:499"}, {10, 3, -500, "10:500"}, {10, 3, -499, "10:501"},
		{10, 3, 500, ""}, {10, 3, -501, ""}, {10, 3, 999, ""}, {10, 3, 998, ""}, {10, 3, -999, ""}, {10, 3, 1000, ""}, {10, 3, -1000, ""}, {10, 3, 1001, ""},
		{2, 1, 0, "2:0"}, {2, 1, -1, "2:1"}, {2, 1, 1, ""}, {2, 1, -2, ""}, {2, 3, -4, "2:100"}, {2, 3, 3, "2:011"}, {2, 3, 4, ""},
		{3, 1, 1, "3:1"}, {3, 1, -1, "3:2"}, {3, 1, 0, "3:0"}, {3, 1, 2, ""}, {3, 1, -2, ""},
		{3, 2, 4, "3:11"}, {3, 2, -4, "3:12"}, {3, 2, 5, ""}, {3, 2, -5, ""}, {3, 2, -1, "3:22"}, {3, 2, 3, "3:10"}, {3, 2, -3, "3:20"},
		{5, 1, 2, "5:2"}, {5, 1, -2, "5:3"}, {5, 1, 3, ""}, {5, 1, -3, ""}, {5, 2, 12, "5:22"}, {5, 2, -12, "5:23"}, {5, 2, 13, ""}, {5, 2, -13, ""},
		{15, 2, 112, "15:77"}, {15, 2, -112, "15:78"}, {15, 2, 113, ""}, {15, 2, -113, ""}, {16, 2, -128, "16:80"}, {16, 2, 127, "16:7f"}, {16, 2, 128, ""}, {16, 2, -1, "16:ff"},
		{10, 12, 499999999999, "10:499999999999"}, {10, 12, -500000000000, "10:500000000000"}, {10, 12, 500000000000, ""}, {10, 12, -500000000001, ""},
		{10, 12, impl.MaxValue, ""}, {10, 12, -impl.MaxValue, ""}, {10, 12, impl.MaxValue + 1, ""}, {10, 12, math.MaxInt64, ""}, {10, 12, math.MinInt64, ""},
		{2, 16, math.MinInt64, ""}, {2, 1, math.MinInt64, ""}, {2, 1, math.MaxInt64, ""}, {3, 1, math.MaxInt64, ""}, {3, 1, math.MinInt64, ""}, {3, 1, math.MinInt64 + 1, ""}, {16, 9, 1 << 36, ""},
		{7, 14, 339111536424, "7:33333333333333"}, {7, 14, -339111536424, "7:33333333333334"}, {7, 14, 339111536425, ""}, {7, 14, -339111536425, ""},
	} {
		what := fmt.Sprint(c.base, c.width, c.number)
		got := purely(t, impl.SetAccumulator, c.base, c.width, c.number)
		if c.want == "" {
			isResult(t, what, got, impl.Register{}, int64(impl.ErrFull))
		} else {
			isResult(t, what, got, read(t, c.want), int64(impl.OK))
		}
	}
}

// TestNumbersOfAllSmallAccumulators lays the registers in the order of their values beside the numbers.
func TestNumbersOfAllSmallAccumulators(t *testing.T) {
	for _, small := range smallShapes {
		registers := registersOf(small.base, small.width)
		width := int64(small.width)
		low, high, code := impl.AccumulatorRange(small.base, width)
		count := int64(len(registers))
		isResult(t, fmt.Sprint(small), all(low, high, code), -(count / 2), (count-1)/2, int64(impl.OK))
		for number := -2 * count; number <= 2*count; number++ {
			what := fmt.Sprint(small, ": ", number)
			if number < low || number > high {
				isResult(t, what, all(impl.SetAccumulator(small.base, width, number)), impl.Register{}, int64(impl.ErrFull))
				continue
			}
			r := registers[(number+count)%count]
			isResult(t, what, all(impl.SetAccumulator(small.base, width, number)), r, int64(impl.OK))
			isResult(t, what, all(impl.NumberOf(r)), number, int64(impl.OK))
			isResult(t, what, all(impl.AccumulatorText(r)), fmt.Sprintf("%+d", number))
		}
	}
}

func TestNumbersOfAllShapes(t *testing.T) {
	random := rand.New(rand.NewSource(91))
	for _, s := range accumulatorShapes() {
		for _, number := range s.numbers(random) {
			r := s.digits(number)
			what := fmt.Sprint(r)
			isResult(t, what, all(impl.SetAccumulator(s.base, s.width, number)), r, int64(impl.OK))
			isResult(t, what, all(impl.NumberOf(r)), number, int64(impl.OK))
			isResult(t, what, all(impl.AccumulatorText(r)), fmt.Sprintf("%+d", number))
		}
		for _, number := range []int64{s.low() - 1, s.high() + 1, s.low() - s.count, s.high() + s.count, s.count, -s.count} {
			isResult(t, fmt.Sprint(s, number), all(impl.SetAccumulator(s.base, s.width, number)), impl.Register{}, int64(impl.ErrFull))
		}
	}
	for _, r := range validRegisters() {
		if isAccumulator(r) {
			isResult(t, fmt.Sprint(r), all(impl.NumberOf(r)), numberShown(r), int64(impl.OK))
		}
	}
}

func TestNumberOf(t *testing.T) {
	for text, want := range map[string]int64{
		"10:998": -2, "10:002": 2, "10:000": 0, "10:499": 499, "10:500": -500, "10:999": -1, "10:501": -499,
		"2:0": 0, "2:1": -1, "2:0111": 7, "2:1000": -8, "2:1111111111111111": -1, "2:1000000000000000": -32768, "2:0111111111111111": 32767,
		"3:0": 0, "3:1": 1, "3:2": -1, "3:11": 4, "3:12": -4, "3:10": 3, "3:20": -3, "3:22": -1, "3:111": 13, "3:112": -13, "3:1111111111111111": 21523360, "3:1111111111111112": -21523360,
		"5:2": 2, "5:3": -2, "5:22": 12, "5:23": -12, "5:30": -10, "7:33": 24, "7:34": -24, "9:4": 4, "9:5": -4, "9:44": 40, "9:45": -40, "11:55": 60, "11:56": -60, "13:6": 6, "13:7": -6, "15:7": 7, "15:8": -7,
		"16:7": 7, "16:8": -8, "16:7fffffff": 1<<31 - 1, "16:80000000": -1 << 31, "10:499999999999": 499999999999, "10:500000000000": -500000000000, "10:999999999999": -1,
	} {
		isResult(t, text, purely(t, impl.NumberOf, read(t, text)), want, int64(impl.OK))
	}
}

// TestOthersThanAccumulatorsAreRejected has registers that are not valid, and valid ones that are too wide.
func TestOthersThanAccumulatorsAreRejected(t *testing.T) {
	none, invalid := impl.Register{}, int64(impl.ErrInvalid)
	for _, bad := range append(invalidRegisters(), tooWide()...) {
		isResult(t, "number", purely(t, impl.NumberOf, bad), int64(0), invalid)
		isResult(t, "opposite", purely(t, impl.NegateAccumulator, bad), none, invalid)
		isResult(t, "text", purely(t, impl.AccumulatorText, bad), "")
		for _, n := range []int64{0, 1, -1, impl.MaxValue, impl.MaxValue + 1, -impl.MaxValue - 1, math.MaxInt64, math.MinInt64} { // ErrInvalid comes before ErrRange
			isResult(t, "sum", purely(t, impl.AccumulateNumber, bad, n), none, false, invalid)
			isResult(t, "sum of all", purely(t, impl.AccumulateAll, bad, []int64{n, 1}), none, []int64(nil), invalid)
		}
		isResult(t, "sum of none", purely(t, impl.AccumulateAll, bad, []int64(nil)), none, []int64(nil), invalid)
		for _, width := range []int64{0, 1, 3, int64(len(bad.Digits)), 13, 16, 17, -1, math.MaxInt64, math.MinInt64} { // and before ErrFull
			isResult(t, "wider", purely(t, impl.WidenAccumulator, bad, width), none, invalid)
		}
		for _, other := range []impl.Register{bad, reg(10, 0), reg(2, 1), reg(10, 8, 9, 9), {}, reg(10, 0, 0, 0, 0, 0, 0, 0, 0, 0, 0, 0, 0, 0)} { // and before ErrState
			isResult(t, "transfer", purely(t, impl.TransferTo, bad, other), none, none, false, invalid)
			isResult(t, "transfer", purely(t, impl.TransferTo, other, bad), none, none, false, invalid)
		}
	}
}

func TestNegateAccumulator(t *testing.T) {
	for text, want := range map[string]string{
		"10:998": "10:002", "10:002": "10:998", "10:000": "10:000", "10:499": "10:501", "10:501": "10:499", "10:500": "", "10:5": "", "10:500000000000": "", "10:499999999999": "10:500000000001",
		"2:0": "2:0", "2:1": "", "2:10": "", "2:11": "2:01", "2:01": "2:11", "16:8": "", "16:9": "16:7", "16:80": "", "16:7f": "16:81",
		"3:0": "3:0", "3:1": "3:2", "3:2": "3:1", "3:11": "3:12", "3:12": "3:11", "5:2": "5:3", "5:3": "5:2", "5:22": "5:23", "5:23": "5:22", "15:78": "15:77",
	} {
		got := purely(t, impl.NegateAccumulator, read(t, text))
		if want == "" {
			isResult(t, text, got, impl.Register{}, int64(impl.ErrFull))
		} else {
			isResult(t, text, got, read(t, want), int64(impl.OK))
		}
	}
}

// checkOpposite checks that the opposite number is missing just for the least number of an even count.
func checkOpposite(t *testing.T, s accumulatorShape, number int64) {
	t.Helper()
	r := s.digits(number)
	got, code := impl.NegateAccumulator(r)
	if s.base%2 == 0 && number == s.low() {
		isResult(t, fmt.Sprint(r), all(got, code), impl.Register{}, int64(impl.ErrFull))
		return
	}
	isResult(t, fmt.Sprint(r), all(got, code), s.digits(-number), int64(impl.OK))
	isResult(t, fmt.Sprint(r), all(impl.NegateAccumulator(got)), r, int64(impl.OK))
}

func TestNegateAllAccumulators(t *testing.T) {
	random := rand.New(rand.NewSource(92))
	for _, small := range smallShapes {
		for _, r := range registersOf(small.base, small.width) {
			checkOpposite(t, shapeOf(r), numberShown(r))
		}
	}
	for _, s := range accumulatorShapes() {
		for _, number := range s.numbers(random) {
			checkOpposite(t, s, number)
		}
	}
}

func TestAccumulateNumber(t *testing.T) {
	for _, c := range []struct {
		from   string
		number int64
		want   string
		bell   bool
	}{
		{"10:998", 10, "10:008", false}, {"10:998", -499, "10:499", true}, {"10:998", -498, "10:500", false}, {"10:998", 2, "10:000", false}, {"10:998", 501, "10:499", false}, {"10:998", 502, "10:500", true},
		{"10:499", 1, "10:500", true}, {"10:499", 0, "10:499", false}, {"10:500", -1, "10:499", true}, {"10:500", 0, "10:500", false}, {"10:500", 999, "10:499", false}, {"10:500", 1000, "10:500", true},
		{"10:499", -999, "10:500", false}, {"10:499", -1000, "10:499", true}, {"10:000", 1000, "10:000", true}, {"10:000", -1000, "10:000", true}, {"10:000", 2000, "10:000", true}, {"10:001", -3001, "10:000", true},
		{"10:000", 500, "10:500", true}, {"10:000", -500, "10:500", false}, {"10:000", 999, "10:999", true}, {"10:000", -999, "10:001", true},
		{"10:000", impl.MaxValue, "10:000", true}, {"10:000", -impl.MaxValue, "10:000", true}, {"10:001", impl.MaxValue - 1, "10:000", true}, {"10:007", -impl.MaxValue, "10:007", true},
		{"2:0", 1, "2:1", true}, {"2:0", -1, "2:1", false}, {"2:1", 1, "2:0", false}, {"2:1", -1, "2:0", true}, {"2:1", 2, "2:1", true}, {"2:0", impl.MaxValue, "2:0", true}, {"2:0", -impl.MaxValue + 1, "2:1", true},
		{"3:0", 1, "3:1", false}, {"3:1", 1, "3:2", true}, {"3:2", -1, "3:1", true}, {"3:2", 1, "3:0", false}, {"3:2", 2, "3:1", false}, {"3:1", -2, "3:2", false}, {"3:1", -3, "3:1", true}, {"3:0", 3, "3:0", true}, {"3:0", 2, "3:2", true}, {"3:0", -2, "3:1", true},
		{"3:11", 1, "3:12", true}, {"3:12", -1, "3:11", true}, {"3:12", 8, "3:11", false}, {"3:12", 9, "3:12", true}, {"3:11", -8, "3:12", false}, {"3:11", -9, "3:11", true}, {"3:00", 4, "3:11", false}, {"3:00", 5, "3:12", true}, {"3:00", -4, "3:12", false}, {"3:00", -5, "3:11", true},
		{"5:2", 1, "5:3", true}, {"5:3", -1, "5:2", true}, {"5:3", 4, "5:2", false}, {"5:2", -4, "5:3", false}, {"5:2", impl.MaxValue, "5:2", true}, {"5:3", -impl.MaxValue, "5:3", true},
		{"3:1", impl.MaxValue, "3:2", true}, {"3:2", -impl.MaxValue, "3:1", true}, // 10 to the 12 is 1 more than a multiple of 3
		{"10:499999999999", impl.MaxValue, "10:499999999999", true}, {"10:500000000000", -impl.MaxValue, "10:500000000000", true}, {"10:500000000000", impl.MaxValue - 1, "10:499999999999", false},
		{"10:499999999999", -impl.MaxValue + 1, "10:500000000000", false}, {"10:499999999999", 1, "10:500000000000", true}, {"10:500000000000", -1, "10:499999999999", true},
		{"16:7f", 1, "16:80", true}, {"16:80", -1, "16:7f", true}, {"16:ff", 1, "16:00", false}, {"16:00", -1, "16:ff", false},
	} {
		what := fmt.Sprint(c.from, " and ", c.number)
		r, want := read(t, c.from), read(t, c.want)
		isResult(t, what, purely(t, impl.AccumulateNumber, r, c.number), want, c.bell, int64(impl.OK))
		var bells []int64
		if c.bell {
			bells = []int64{0}
		}
		sum, got, code := addNumber(r, c.number)
		isResult(t, what, all(sum, code, slices.Equal(got, bells)), want, int64(impl.OK), true)
	}
}

var notAddends = []int64{impl.MaxValue + 1, -impl.MaxValue - 1, 2 * impl.MaxValue, 1 << 62, math.MaxInt64, math.MaxInt64 - 1, math.MinInt64, math.MinInt64 + 1}

func TestNumbersOutOfRangeAreRejected(t *testing.T) {
	for _, r := range []impl.Register{reg(10, 8, 9, 9), reg(3, 1), reg(2, 0), reg(10, 0, 0, 0, 0, 0, 0, 0, 0, 0, 0, 0, 5)} {
		for _, n := range notAddends {
			isResult(t, fmt.Sprint(n), purely(t, impl.AccumulateNumber, r, n), impl.Register{}, false, int64(impl.ErrRange))
			for _, list := range [][]int64{{n}, {n, 1}, {1, n}, {impl.MaxValue, -impl.MaxValue, n, 3}, {n, n, n}, append(make([]int64, 500), n)} {
				isResult(t, fmt.Sprint(list), purely(t, impl.AccumulateAll, r, list), impl.Register{}, []int64(nil), int64(impl.ErrRange))
			}
		}
		for _, n := range []int64{impl.MaxValue, -impl.MaxValue} {
			if _, _, code := impl.AccumulateNumber(r, n); code != impl.OK {
				t.Errorf("%d: %d", n, code)
			}
			if _, _, code := impl.AccumulateAll(r, []int64{n, -n, n, n, n}); code != impl.OK {
				t.Errorf("%d: %d", n, code)
			}
		}
	}
}

// checkSum checks a sum against wheels that go on in a circle; where no bell rings, it is the sum of both numbers.
func checkSum(t *testing.T, s accumulatorShape, number, addend int64) {
	t.Helper()
	want, rings := s.turned(number, addend)
	sum, bell, code := impl.AccumulateNumber(s.digits(number), addend)
	isResult(t, fmt.Sprint(s, number, " and ", addend), all(sum, bell, code), s.digits(want), rings, int64(impl.OK))
	shown, code := impl.NumberOf(sum)
	if code != impl.OK || !bell && shown != number+addend || bell && shown == number+addend {
		t.Errorf("%v: %d and %d: %d is shown, and the bell is %v", s, number, addend, shown, bell)
	}
}

func TestPromise9AllSmallAccumulators(t *testing.T) {
	for _, small := range smallShapes {
		for _, r := range registersOf(small.base, small.width) {
			s := shapeOf(r)
			for addend := -3 * s.count; addend <= 3*s.count; addend++ {
				checkSum(t, s, numberShown(r), addend)
			}
		}
	}
}

func TestPromise9AllShapes(t *testing.T) {
	random := rand.New(rand.NewSource(93))
	for _, s := range accumulatorShapes() {
		for _, number := range s.numbers(random) {
			for _, addend := range s.addends(random) {
				checkSum(t, s, number, addend)
			}
			for _, sum := range []int64{s.low(), s.high(), s.low() - 1, s.high() + 1, 0} { // the limits just reached, or passed by 1
				checkSum(t, s, number, sum-number)
			}
		}
	}
}

func TestAccumulateAll(t *testing.T) {
	for _, c := range []struct {
		from  string
		list  []int64
		want  string
		bells []int64
	}{
		{"10:998", []int64{400, 200, -300}, "10:298", []int64{1, 2}},
		{"10:998", nil, "10:998", nil},
		{"10:998", []int64{}, "10:998", nil},
		{"10:998", []int64{0, 0}, "10:998", nil},
		{"10:998", []int64{2, 499, 1, -1, 1}, "10:500", []int64{2, 3, 4}},
		{"10:000", []int64{1000, 0, -1000, 0, 500}, "10:500", []int64{0, 2, 4}},
		{"10:000", []int64{400, 400, -400, -400}, "10:000", []int64{1, 2}},
		{"10:000", []int64{impl.MaxValue, -impl.MaxValue, impl.MaxValue, impl.MaxValue}, "10:000", []int64{0, 1, 2, 3}},
		{"3:0", []int64{1, 1, 1, 1, 1, -1, -2}, "3:2", []int64{1, 4, 5}},
		{"3:00", []int64{4, 1, -1, -8, -1}, "3:11", []int64{1, 2, 4}},
		{"5:2", []int64{-4, 4, 1}, "5:3", []int64{2}},
		{"2:0", []int64{1, 1, 1, -1}, "2:0", []int64{0, 2, 3}},
		{"10:499999999999", []int64{impl.MaxValue, 1, impl.MaxValue - 1}, "10:499999999999", []int64{0, 1}},
	} {
		got := purely(t, impl.AccumulateAll, read(t, c.from), c.list)
		bells, _ := got[1].([]int64)
		isResult(t, fmt.Sprint(c.from, c.list), all(got[0], slices.Equal(bells, c.bells), got[2]), read(t, c.want), true, int64(impl.OK))
	}
}

// TestAccumulateManyNumbers adds lists at once, and their numbers one after the other.
func TestAccumulateManyNumbers(t *testing.T) {
	random := rand.New(rand.NewSource(94))
	for _, s := range accumulatorShapes() {
		for _, number := range s.numbers(random) {
			list := slices.Concat(s.addends(random), s.numbers(random))
			random.Shuffle(len(list), func(i, j int) { list[i], list[j] = list[j], list[i] })
			reached, r := number, s.digits(number)
			var wanted []int64
			for i, addend := range list {
				var rings bool
				if reached, rings = s.turned(reached, addend); rings {
					wanted = append(wanted, int64(i))
				}
				r, _, _ = impl.AccumulateNumber(r, addend)
			}
			sum, bells, code := impl.AccumulateAll(s.digits(number), list)
			isResult(t, fmt.Sprint(s, number), all(sum, code, slices.Equal(bells, wanted)), s.digits(reached), int64(impl.OK), true)
			isResult(t, fmt.Sprint(s, number), all(r), sum)
		}
	}
}

// TestAccumulateLongList adds 1 again and again: there is a bell once in each round.
func TestAccumulateLongList(t *testing.T) {
	for _, s := range []accumulatorShape{{10, 3, 1000}, {3, 4, 81}, {2, 1, 2}, {5, 1, 5}} {
		var wanted []int64
		for i := s.high(); i < 100000; i += s.count {
			wanted = append(wanted, i)
		}
		sum, bells, code := impl.AccumulateAll(s.digits(0), slices.Repeat([]int64{1}, 100000))
		isResult(t, fmt.Sprint(s), all(sum, bells, code), s.digits(100000), wanted, int64(impl.OK))
	}
}

func TestClearTurns(t *testing.T) {
	for text, want := range map[string][]int64{
		"10:998": {2, 1, 1}, "10:000": {0, 0, 0}, "10:0": {0}, "10:5": {5}, "10:1234567890": {0, 1, 2, 3, 4, 5, 6, 7, 8, 9}, "2:10": {0, 1}, "2:1": {1}, "3:210": {0, 2, 1}, "16:f0a": {6, 0, 1}, "15:e": {1}, "5:4321": {4, 3, 2, 1},
		"10:1000000000000": {0, 0, 0, 0, 0, 0, 0, 0, 0, 0, 0, 0, 9}, "16:000000e8d4a51000": {0, 0, 0, 15, 11, 6, 12, 3, 8, 2, 0, 0, 0, 0, 0, 0}, // no accumulators, but valid
	} {
		isResult(t, text, purely(t, impl.ClearTurns, read(t, text)), want, int64(impl.OK))
	}
	for _, bad := range invalidRegisters() {
		isResult(t, "invalid", purely(t, impl.ClearTurns, bad), []int64(nil), int64(impl.ErrInvalid))
	}
}

// TestClearTurnsOfAllShapes turns each wheel step by step until it is at 0.
func TestClearTurnsOfAllShapes(t *testing.T) {
	for _, r := range append(validRegisters(), tooWide()...) {
		var wanted []int64
		for _, d := range r.Digits {
			steps := int64(0)
			for place := d; place != 0; place = (place + 1) % r.Base {
				steps++
			}
			wanted = append(wanted, steps)
		}
		isResult(t, fmt.Sprint(r), all(impl.ClearTurns(r)), wanted, int64(impl.OK))
	}
}

func TestTransferTo(t *testing.T) {
	for _, c := range []struct {
		from, to, cleared, sum string
		bell                   bool
	}{
		{"10:998", "10:0040", "10:000", "10:0038", false},
		{"10:0040", "10:998", "10:0000", "10:038", false},
		{"10:998", "10:000", "10:000", "10:998", false},
		{"10:998", "10:00000", "10:000", "10:99998", false},
		{"10:500", "10:500", "10:000", "10:000", true},
		{"10:499", "10:001", "10:000", "10:500", true},
		{"10:499", "10:000", "10:000", "10:499", false},
		{"10:499", "10:0001", "10:000", "10:0500", false},
		{"10:0500", "10:000", "10:0000", "10:500", true},
		{"10:9500", "10:000", "10:0000", "10:500", false},
		{"10:9499", "10:000", "10:0000", "10:499", true},
		{"10:1000", "10:7", "10:0000", "10:7", true},
		{"10:999999999999", "10:5", "10:000000000000", "10:4", true},
		{"10:499999999999", "10:499999999999", "10:000000000000", "10:999999999998", true},
		{"10:500000000000", "10:500000000000", "10:000000000000", "10:000000000000", true},
		{"10:000", "10:500", "10:000", "10:500", false},
		{"3:2", "3:00", "3:0", "3:22", false},
		{"3:2", "3:12", "3:0", "3:11", true},
		{"3:1", "3:11", "3:0", "3:12", true},
		{"3:11", "3:2", "3:00", "3:0", true},
		{"3:12", "3:1", "3:00", "3:0", true},
		{"3:2", "3:1", "3:0", "3:0", false},
		{"5:23", "5:2", "5:00", "5:0", true},
		{"5:23", "5:000", "5:00", "5:423", false},
		{"2:1", "2:1", "2:0", "2:0", true},
		{"2:1", "2:0000000000000000", "2:0", "2:1111111111111111", false},
		{"16:8", "16:10", "16:0", "16:08", false},
	} {
		isResult(t, c.from+" to "+c.to, purely(t, impl.TransferTo, read(t, c.from), read(t, c.to)), read(t, c.cleared), read(t, c.sum), c.bell, int64(impl.OK))
	}
	for _, pair := range [][2]impl.Register{{reg(10, 1), reg(9, 1)}, {reg(2, 1), reg(3, 1)}, {reg(16, 15, 15), reg(15, 1)}, {reg(10, 0, 0), reg(2, 0, 0)}} {
		isResult(t, "other base", purely(t, impl.TransferTo, pair[0], pair[1]), impl.Register{}, impl.Register{}, false, int64(impl.ErrState))
	}
}

// TestTransfersOfAllShapes has transfers between accumulators of all widths.
func TestTransfersOfAllShapes(t *testing.T) {
	random := rand.New(rand.NewSource(95))
	for _, s := range accumulatorShapes() {
		for _, u := range accumulatorShapes() {
			numbers, others := s.numbers(random), u.numbers(random)
			number, other := numbers[random.Intn(len(numbers))], others[random.Intn(len(others))]
			from, to := s.digits(number), u.digits(other)
			if s.base != u.base {
				isResult(t, "other base", all(impl.TransferTo(from, to)), impl.Register{}, impl.Register{}, false, int64(impl.ErrState))
				continue
			}
			want, rings := u.turned(other, number)
			isResult(t, fmt.Sprint(from, " to ", to), all(impl.TransferTo(from, to)), s.digits(0), u.digits(want), rings, int64(impl.OK))
		}
	}
}

func TestWidenAccumulator(t *testing.T) {
	for _, c := range []struct {
		from  string
		width int64
		want  string // none for the code
		code  int64
	}{
		{"10:998", 5, "10:99998", impl.OK}, {"10:998", 3, "10:998", impl.OK}, {"10:002", 4, "10:0002", impl.OK}, {"10:000", 12, "10:000000000000", impl.OK}, {"10:500", 4, "10:9500", impl.OK}, {"10:499", 4, "10:0499", impl.OK},
		{"10:500", 12, "10:999999999500", impl.OK}, {"10:998", 13, "", impl.ErrFull}, {"10:000", 13, "", impl.ErrFull}, {"10:998", 16, "", impl.ErrFull}, {"10:998", 17, "", impl.ErrRange}, {"10:998", 2, "", impl.ErrRange},
		{"10:998", 0, "", impl.ErrRange}, {"10:998", -1, "", impl.ErrRange}, {"10:002", 1, "", impl.ErrRange}, {"10:002", 2, "", impl.ErrRange}, {"10:0", 0, "", impl.ErrRange}, {"10:998", math.MaxInt64, "", impl.ErrRange},
		{"10:998", math.MinInt64, "", impl.ErrRange}, {"10:998", 1<<32 + 5, "", impl.ErrRange}, {"10:999999999999", 12, "10:999999999999", impl.OK}, {"10:999999999999", 13, "", impl.ErrFull}, {"10:999999999999", 11, "", impl.ErrRange},
		{"2:1", 16, "2:1111111111111111", impl.OK}, {"2:1", 17, "", impl.ErrRange}, {"2:01", 16, "2:0000000000000001", impl.OK}, {"2:1000000000000000", 16, "2:1000000000000000", impl.OK}, {"2:1000000000000000", 17, "", impl.ErrRange},
		{"3:2", 2, "3:22", impl.OK}, {"3:1", 2, "3:01", impl.OK}, {"3:12", 3, "3:212", impl.OK}, {"3:11", 3, "3:011", impl.OK}, {"3:12", 16, "3:2222222222222212", impl.OK}, // the highest digit alone does not tell the sign
		{"5:23", 3, "5:423", impl.OK}, {"5:22", 3, "5:022", impl.OK}, {"7:34", 4, "7:6634", impl.OK}, {"7:33", 4, "7:0033", impl.OK}, {"7:34", 15, "", impl.ErrFull}, {"7:34", 14, "7:66666666666634", impl.OK}, {"15:8", 2, "15:e8", impl.OK},
		{"16:8", 9, "16:ffffffff8", impl.OK}, {"16:8", 10, "", impl.ErrFull}, {"16:8", 16, "", impl.ErrFull}, {"6:3", 15, "6:555555555555553", impl.OK}, {"6:3", 16, "", impl.ErrFull},
	} {
		got := purely(t, impl.WidenAccumulator, read(t, c.from), c.width)
		what := fmt.Sprint(c.from, " to ", c.width)
		if c.code != impl.OK {
			isResult(t, what, got, impl.Register{}, c.code)
		} else {
			isResult(t, what, got, read(t, c.want), int64(impl.OK))
		}
	}
}

func TestWidenAccumulatorsOfAllShapes(t *testing.T) {
	random := rand.New(rand.NewSource(96))
	for _, s := range accumulatorShapes() {
		for _, number := range s.numbers(random) {
			for width := int64(-1); width <= 18; width++ {
				what := fmt.Sprint(s, number, " to ", width)
				got, code := impl.WidenAccumulator(s.digits(number), width)
				switch {
				case width < s.width || width > impl.MaxWidth:
					isResult(t, what, all(got, code), impl.Register{}, int64(impl.ErrRange))
				case width > widest[s.base]:
					isResult(t, what, all(got, code), impl.Register{}, int64(impl.ErrFull))
				default:
					isResult(t, what, all(got, code), accumulatorShape{s.base, width, 0}.digits(number), int64(impl.OK))
					isResult(t, what, all(impl.NumberOf(got)), number, int64(impl.OK))
				}
			}
		}
	}
}

func TestAccumulatorText(t *testing.T) {
	for text, want := range map[string]string{
		"10:998": "-2", "10:000": "+0", "10:0": "+0", "10:008": "+8", "10:499": "+499", "10:500": "-500", "2:1": "-1", "2:0": "+0", "3:1": "+1", "3:2": "-1", "3:12": "-4", "3:11": "+4",
		"16:7f": "+127", "16:80": "-128", "10:500000000000": "-500000000000", "10:499999999999": "+499999999999", "10:0000000000000": "", "10:0000000000007": "", "16:0000000000": "", "6:0000000000000001": "",
	} {
		isResult(t, text, purely(t, impl.AccumulatorText, read(t, text)), want)
	}
}

// TestExampleOfAccumulators is the example of the document.
func TestExampleOfAccumulators(t *testing.T) {
	isResult(t, "number", all(impl.NumberOf(reg(10, 8, 9, 9))), int64(-2), int64(impl.OK))
}
