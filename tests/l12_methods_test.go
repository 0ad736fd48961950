package tests

import (
	"fmt"
	"math"
	"math/big"
	"math/rand"
	"slices"
	"strings"
	"testing"

	"loop.example/g00930/impl"
)

// isProgramOf checks the lines of a program, which are separated by commas.
func isProgramOf(t *testing.T, what string, got []any, want string) {
	t.Helper()
	lines, code := impl.ProgramLines(got[0].([]impl.Instr))
	isResult(t, what, all(strings.Join(lines, ", "), code, got[1]), want, int64(impl.OK), int64(impl.OK))
}

// turnsToMake returns the turns of the one or the other way of multiplying, by the rules of the document.
func turnsToMake(base, factor int64, short bool) []int64 {
	if short {
		return turnsRuled(base, factor)
	}
	return digitsWritten(base, factor)
}

// linesOfTurns returns the lines of a program that makes turns.
func linesOfTurns(turns []int64) string {
	var lines []string
	for k, n := range turns {
		if k > 0 {
			lines = append(lines, "right")
		}
		word := map[bool]string{true: "add", false: "sub"}[n > 0]
		switch times := max(n, -n); {
		case times == 1:
			lines = append(lines, word)
		case times > 1:
			lines = append(lines, fmt.Sprint(word, " ", times))
		}
	}
	return strings.Join(lines, ", ")
}

// someValues has numbers from 0 to a greatest one: the least ones, the greatest ones and random ones.
func someValues(random *rand.Rand, greatest int64) []int64 {
	list := []int64{0, 1, 2, 3, 5, greatest, greatest - 1, greatest - 2, greatest / 2, greatest/2 + 1, random.Int63n(greatest + 1), random.Int63n(1 + random.Int63n(greatest+1))}
	return slices.DeleteFunc(list, func(n int64) bool { return n < 0 || n > greatest })
}

// greatestValue returns the greatest value with some digits.
func greatestValue(base int64, width int) int64 { return powerOf(base, int64(width)).Int64() - 1 }

// usedMachine returns a machine with a shape on which nothing is 0, if that can be, and the carriage is at the last place.
func (s machineShape) usedMachine() impl.Machine {
	one := big.NewInt(-1)
	return s.with(one, one, one, s.places()-1)
}

func TestPromise1Methods(t *testing.T) {
	numbers := append([]int64{98, greatestFactor, greatestFactor + 1, 62}, oddNumbers...)
	for _, a := range numbers {
		purely(t, impl.DivideProgram, a)
		purely(t, impl.SumProgram, []int64{1, a, 2})
		for _, b := range numbers {
			purely(t, impl.MultiplyProgram, a, b, false)
			purely(t, impl.MultiplyProgram, a, b, true)
			purely(t, impl.CompareMethods, a, b)
			purely(t, impl.RootOf, a, b)
			purely(t, impl.RootTurns, a, b)
		}
	}
	lists := [][]int64{nil, {}, {0}, {7, 12, 30}, numbers, slices.Repeat([]int64{1}, 59), slices.Repeat([]int64{1}, 60), slices.Repeat([]int64{-1}, 60)}
	for _, list := range lists {
		purely(t, impl.SumProgram, list)
	}
	for i, m := range append(machinesForPrograms(t), invalidMachines()[:8]...) {
		for j, a := range numbers {
			for k, b := range numbers {
				if (i+j+k)%3 == 0 {
					purely(t, impl.MultiplyOn, m, a, b, k%2 == 0)
					purely(t, impl.DivideOn, m, a, b)
				}
			}
		}
		for _, list := range lists {
			purely(t, impl.SumOn, m, list)
		}
	}
}

func TestMultiplyProgram(t *testing.T) {
	for _, c := range []struct {
		base, factor int64
		long, short  string
	}{
		{10, 0, "", ""}, {10, 1, "add", "add"}, {10, 2, "add 2", "add 2"}, {10, 5, "add 5", "add 5"}, {10, 9, "add 9", "sub, right, add"}, {10, 10, "right, add", "right, add"}, {10, 98, "add 8, right, add 9", "sub 2, right, right, add"},
		{10, 100, "right, right, add", "right, right, add"}, {10, 55, "add 5, right, add 5", "sub 5, right, sub 4, right, add"}, {10, 45, "add 5, right, add 4", "add 5, right, add 4"}, {10, 305, "add 5, right, right, add 3", "add 5, right, right, add 3"},
		{2, 1, "add", "add"}, {2, 3, "add, right, add", "sub, right, right, add"}, {2, 6, "right, add, right, add", "right, sub, right, right, add"}, {16, 255, "add 15, right, add 15", "sub, right, right, add"}, {16, 136, "add 8, right, add 8", "sub 8, right, sub 7, right, add"},
	} {
		what := fmt.Sprint(c.factor, " in base ", c.base)
		isProgramOf(t, what, purely(t, impl.MultiplyProgram, c.base, c.factor, false), c.long)
		isProgramOf(t, what, purely(t, impl.MultiplyProgram, c.base, c.factor, true), c.short)
	}
	random := rand.New(rand.NewSource(121))
	for base := int64(2); base <= 16; base++ {
		for _, factor := range someFactors(random, base) {
			for _, short := range []bool{false, true} {
				list, code := impl.MultiplyProgram(base, factor, short)
				isProgramOf(t, fmt.Sprint(factor, " in base ", base), all(list, code), linesOfTurns(turnsToMake(base, factor, short)))
			}
		}
	}
}

func TestMethodsForOtherFactorsAreRejected(t *testing.T) {
	outside := int64(impl.ErrRange)
	check := func(base, factor int64) {
		t.Helper()
		what := fmt.Sprint(base, factor)
		isResult(t, what, purely(t, impl.MultiplyProgram, base, factor, false), []impl.Instr(nil), outside)
		isResult(t, what, purely(t, impl.MultiplyProgram, base, factor, true), []impl.Instr(nil), outside)
		isResult(t, what, purely(t, impl.CompareMethods, base, factor), int64(0), int64(0), outside)
	}
	for _, base := range []int64{0, 1, 17, 18, -1, -10, 256 + 10, 1<<32 + 10, math.MaxInt64, math.MinInt64} {
		for _, factor := range []int64{0, 1, 98, greatestFactor, -1} {
			check(base, factor)
		}
	}
	for base := int64(2); base <= 16; base++ {
		for _, factor := range []int64{-1, -98, greatestFactor + 1, impl.MaxFactor, impl.MaxValue, 1<<32 + 5, math.MaxInt64, math.MinInt64} {
			check(base, factor)
		}
	}
}

func TestCompareMethods(t *testing.T) {
	for _, c := range [][4]int64{{10, 98, 17, 3}, {10, 0, 0, 0}, {10, 1, 1, 1}, {10, 5, 5, 5}, {10, 55, 10, 10}, {10, 999, 27, 2}, {2, 7, 3, 2}, {16, 255, 30, 2}, {10, greatestFactor, 13, 12}} {
		isResult(t, fmt.Sprint(c), purely(t, impl.CompareMethods, c[0], c[1]), c[2], c[3], int64(impl.OK))
	}
	random := rand.New(rand.NewSource(122))
	for base := int64(2); base <= 16; base++ {
		for _, factor := range someFactors(random, base) {
			isResult(t, fmt.Sprint(base, factor), all(impl.CompareMethods(base, factor)), turnsMade(digitsWritten(base, factor)), turnsMade(turnsRuled(base, factor)), int64(impl.OK))
		}
	}
}

func TestDivideProgram(t *testing.T) {
	round := "bell, sub, end, add"
	for places := int64(1); places <= 16; places++ {
		want := strings.Repeat(round+", left, ", int(places)-1) + round
		switch {
		case places == 2:
			want = "right, " + want
		case places > 2:
			want = fmt.Sprint("right ", places-1, ", ", want)
		}
		isProgramOf(t, fmt.Sprint(places), purely(t, impl.DivideProgram, places), want)
	}
	for _, places := range []int64{0, -1, -16, 17, 18, 256 + 1, 1<<32 + 1, math.MaxInt64, math.MinInt64, math.MinInt64 + 1} {
		isResult(t, fmt.Sprint(places), purely(t, impl.DivideProgram, places), []impl.Instr(nil), int64(impl.ErrRange))
	}
}

func TestSumProgram(t *testing.T) {
	for _, c := range []struct {
		values []int64
		want   string
	}{
		{nil, "clear"}, {[]int64{}, "clear"}, {[]int64{7}, "clear, set 7, add"}, {[]int64{0}, "clear, set 0, add"}, {[]int64{7, 12, 30}, "clear, set 7, add, set 12, add, set 30, add"}, {[]int64{5, 5}, "clear, set 5, add, set 5, add"},
		{[]int64{1000000000000, 0}, "clear, set 1000000000000, add, set 0, add"}, {slices.Repeat([]int64{3}, 58), "clear" + strings.Repeat(", set 3, add", 58)}, {slices.Repeat([]int64{3}, 59), "clear" + strings.Repeat(", set 3, add", 59)},
	} {
		isProgramOf(t, fmt.Sprint(c.values), purely(t, impl.SumProgram, c.values), c.want)
	}
}

// badSums has values that cannot be added, with their errors; ErrRange comes before ErrFull.
func badSums() map[int64][][]int64 {
	sums := map[int64][][]int64{
		impl.ErrFull: {slices.Repeat([]int64{1}, 60), slices.Repeat([]int64{0}, 61), slices.Repeat([]int64{impl.MaxValue}, 60), slices.Repeat([]int64{1}, 120), slices.Repeat([]int64{1}, 5000)},
	}
	for _, n := range []int64{-1, -2, impl.MaxValue + 1, math.MaxInt64, math.MinInt64} {
		sums[impl.ErrRange] = append(sums[impl.ErrRange], []int64{n}, []int64{1, n}, []int64{n, 1}, []int64{1, 2, n, 4}, append(slices.Repeat([]int64{1}, 58), n), append(slices.Repeat([]int64{1}, 59), n), append([]int64{n}, slices.Repeat([]int64{1}, 200)...), append(slices.Repeat([]int64{1}, 200), n))
	}
	return sums
}

func TestOtherSumsAreRejected(t *testing.T) {
	for code, lists := range badSums() {
		for _, list := range lists {
			isResult(t, fmt.Sprint(list), purely(t, impl.SumProgram, list), []impl.Instr(nil), code)
			for _, text := range []string{"10:00 10:00000 10:0000 0", "10:123456789012 10:123456789012 10:0000 0", "2:1 2:1 2:1 0"} { // also before ErrJam
				isResult(t, fmt.Sprint(list), purely(t, impl.SumOn, machine(t, text), list), impl.Machine{}, int64(0), code)
			}
		}
	}
}

// TestInvalidMachinesHaveNoMethods checks that ErrInvalid comes before all other errors.
func TestInvalidMachinesHaveNoMethods(t *testing.T) {
	none, invalid := impl.Machine{}, int64(impl.ErrInvalid)
	for _, bad := range invalidMachines() {
		for _, a := range []int64{0, 1, -1, 7, 1000, greatestFactor + 1, impl.MaxValue + 1, math.MaxInt64, math.MinInt64} {
			isResult(t, "sum", all(impl.SumOn(bad, []int64{a})), none, int64(0), invalid)
			for _, b := range []int64{0, 1, -1, 99999, greatestFactor + 1, math.MaxInt64, math.MinInt64} {
				isResult(t, "product", all(impl.MultiplyOn(bad, a, b, a == 1)), none, int64(0), invalid)
				isResult(t, "quotient", all(impl.DivideOn(bad, a, b)), int64(0), int64(0), int64(0), invalid)
			}
		}
		for _, list := range [][]int64{nil, {}, slices.Repeat([]int64{1}, 60), {-1}} {
			isResult(t, "sum", all(impl.SumOn(bad, list)), none, int64(0), invalid)
		}
	}
}

func TestMultiplyOn(t *testing.T) {
	for _, c := range []struct {
		from          string
		value, factor int64
		short         bool
		want          string // the name of a code if there is no machine
		strokes       int64
	}{
		{"10:00 10:00000 10:0000 0", 12, 98, true, "10:12 10:01176 10:0098 2", 5}, {"10:00 10:00000 10:0000 0", 12, 98, false, "10:12 10:01176 10:0098 1", 18}, {"10:34 10:98765 10:4321 3", 12, 98, true, "10:12 10:01176 10:0098 2", 5}, // only the widths of m matter
		{"10:34 10:98765 10:4321 3", 0, 0, true, "10:00 10:00000 10:0000 0", 0}, {"10:34 10:98765 10:4321 3", 99, 0, false, "10:99 10:00000 10:0000 0", 0}, {"10:34 10:98765 10:4321 3", 0, 9999, false, "10:00 10:00000 10:9999 3", 39}, {"10:34 10:98765 10:4321 3", 0, 4999, true, "10:00 10:00000 10:4999 3", 9},
		{"10:00 10:00000 10:0000 0", 0, 9999, true, "full", 0}, {"10:00 10:00000 10:0000 0", 0, 10000, false, "full", 0}, // one place too many
		{"10:00 10:00000 10:0000 0", 99, 1010, false, "10:99 10:99990 10:1010 3", 5}, {"10:00 10:00000 10:0000 0", 99, 1011, false, "full", 0}, {"10:00 10:00000 10:0000 0", 1, 9999, false, "10:01 10:09999 10:9999 3", 39}, {"10:00 10:00000 10:0000 0", 10, 9999, false, "10:10 10:99990 10:9999 3", 39}, {"10:00 10:00000 10:0000 0", 11, 9999, false, "full", 0},
		{"10:00 10:00000 10:00 0", 12, 98, true, "full", 0}, {"10:00 10:00000 10:00 0", 12, 98, false, "10:12 10:01176 10:98 1", 18}, {"10:00 10:000 10:0000 0", 10, 98, true, "full", 0}, {"10:00 10:000 10:0000 0", 10, 98, false, "10:10 10:980 10:0098 1", 18}, {"10:00 10:00 10:0000 0", 9, 9, false, "10:09 10:81 10:0009 0", 9},
		{"10:00 10:00 10:0000 0", 9, 9, true, "full", 0}, {"10:00 10:00 10:0000 0", 9, 10, false, "full", 0}, {"10:00 10:00000 10:000 0", 12, 98, true, "10:12 10:01176 10:098 2", 5},
		{"10:00 10:00000 10:0000 0", 99, 1, true, "10:99 10:00099 10:0001 0", 1}, {"10:00 10:00000 10:0000 0", 100, 1, true, "range", 0}, {"10:00 10:00000 10:0000 0", -1, 1, true, "range", 0}, {"10:00 10:00000 10:0000 0", 12, -1, true, "range", 0}, {"10:00 10:00000 10:0000 0", 12, greatestFactor + 1, true, "range", 0},
		{"10:00 10:00000 10:0000 0", 12, greatestFactor, true, "full", 0}, {"10:00 10:00000 10:0000 0", 100, greatestFactor, true, "range", 0}, {"10:00 10:00000 10:0000 0", 1000000000001, 1, true, "range", 0}, {"10:00 10:00000 10:0000 0", 1<<32 + 1, 1, true, "range", 0}, {"10:00 10:00000 10:0000 0", math.MinInt64, 1, true, "range", 0}, {"10:00 10:00000 10:0000 0", math.MaxInt64, math.MaxInt64, true, "range", 0},
		{"10:000000000000 10:000000000000 10:000000000000 0", 999999999999, 1, true, "10:999999999999 10:999999999999 10:000000000001 0", 1}, {"10:000000000000 10:000000000000 10:000000000000 0", 500000000000, 2, false, "full", 0}, {"10:000000000000 10:000000000000 10:000000000000 0", 499999999999, 2, false, "10:499999999999 10:999999999998 10:000000000002 0", 2},
		{"10:0000 10:000000000000 10:000000000000 0", 9999, greatestFactor, true, "10:9999 10:624937500000 10:000062500000 8", 20}, {"10:00000 10:000000000000 10:000000000000 0", 15999, greatestFactor, false, "10:15999 10:999937500000 10:000062500000 7", 20}, {"10:00000 10:000000000000 10:000000000000 0", 16000, greatestFactor, false, "full", 0},
		{"2:0 2:0 2:0 0", 1, 1, true, "2:1 2:1 2:1 0", 1}, {"2:0 2:0 2:0 0", 1, 2, true, "full", 0}, {"2:0 2:00 2:00 0", 1, 3, true, "full", 0}, {"2:0 2:00 2:00 0", 1, 3, false, "2:1 2:11 2:11 1", 3}, {"2:0 2:000 2:000 0", 1, 3, true, "2:1 2:011 2:011 2", 4}, {"16:00 16:0000 16:0000 0", 255, 255, true, "16:ff 16:fe01 16:00ff 2", 4}, {"16:00 16:0000 16:0000 0", 255, 257, true, "16:ff 16:ffff 16:0101 2", 4}, {"16:00 16:0000 16:0000 0", 255, 258, true, "full", 0},
	} {
		what := fmt.Sprint(c.from, ": ", c.value, c.factor, c.short)
		got := purely(t, impl.MultiplyOn, machine(t, c.from), c.value, c.factor, c.short)
		code := got[2].(int64)
		if code != impl.OK {
			isResult(t, what, all(impl.CodeName(code), got[1]), c.want, c.strokes)
			continue
		}
		isResult(t, what, all(impl.MachineText(got[0].(impl.Machine)), got[1]), c.want, c.strokes)
	}
}

// checkProduct multiplies in one way, and reports whether there is a product.
func checkProduct(t *testing.T, s machineShape, value, factor int64, short bool) bool {
	t.Helper()
	what := fmt.Sprint(s, value, factor, short)
	after, strokes, code := impl.MultiplyOn(s.usedMachine(), value, factor, short)
	product := new(big.Int).Mul(big.NewInt(value), big.NewInt(factor))
	turns := turnsToMake(s.base, factor, short)
	if int64(len(turns)) > s.places() || product.Cmp(s.values(s.result)) >= 0 {
		isResult(t, what, all(after, strokes, code), impl.Machine{}, int64(0), int64(impl.ErrFull))
		return false
	}
	last := int64(max(len(turns), 1) - 1) // the place of the carriage behind all turns
	isResult(t, what, all(after, strokes, code), s.with(big.NewInt(value), product, big.NewInt(factor), last), turnsMade(turns)+last, int64(impl.OK))
	return true
}

// TestPromise12BothWaysGiveTheProduct multiplies on all small machines.
func TestPromise12BothWaysGiveTheProduct(t *testing.T) {
	for _, s := range []machineShape{{2, 1, 1, 1}, {2, 1, 2, 2}, {2, 1, 4, 5}, {2, 2, 4, 3}, {2, 2, 5, 2}, {2, 3, 6, 6}, {3, 1, 3, 3}, {3, 2, 4, 4}, {4, 1, 3, 3}, {4, 2, 4, 2}, {5, 1, 3, 3}, {6, 1, 3, 2}, {10, 1, 2, 2}, {10, 1, 3, 2}, {10, 2, 3, 3}, {16, 1, 2, 2}} {
		done := 0
		for value := range greatestValue(s.base, s.setting) + 1 {
			for factor := range greatestValue(s.base, s.result) + 2 {
				for _, short := range []bool{false, true} {
					if checkProduct(t, s, value, factor, short) {
						done++
					}
				}
			}
		}
		if done == 0 {
			t.Errorf("%v: no products", s)
		}
	}
}

// TestPromise12ProductsOfAllShapes multiplies by factors with which the product is just not too great, or which just have not too many places.
func TestPromise12ProductsOfAllShapes(t *testing.T) {
	random := rand.New(rand.NewSource(123))
	done, full := 0, 0
	for _, s := range someMachineShapes() {
		greatest := greatestValue(s.base, s.result)
		for _, value := range someValues(random, greatestValue(s.base, s.setting)) {
			if random.Intn(3) > 0 {
				continue
			}
			power := powerOf(s.base, s.places()).Int64()
			factors := []int64{0, 1, power - 1, power, power / 2, power/2 + 1, power - power/s.base/2, greatestFactor, random.Int63n(greatestFactor + 1), random.Int63n(min(power, greatestFactor))}
			if value > 0 {
				factors = append(factors, greatest/value, greatest/value+1, random.Int63n(greatest/value+1))
			}
			for _, factor := range factors {
				if factor > greatestFactor {
					continue
				}
				for _, short := range []bool{false, true} {
					if checkProduct(t, s, value, factor, short) {
						done++
					} else {
						full++
					}
				}
			}
		}
	}
	if done < 5000 || full < 5000 {
		t.Errorf("%d products, %d are too great", done, full)
	}
}

func TestFactorsAndValuesOutOfRange(t *testing.T) {
	outside := int64(impl.ErrRange)
	for _, s := range someMachineShapes() {
		m := s.usedMachine()
		most := greatestValue(s.base, s.setting)
		for _, value := range []int64{-1, most + 1, math.MinInt64, math.MaxInt64, impl.MaxValue + 1} {
			for _, factor := range []int64{0, 1, greatestFactor} { // ErrRange comes before ErrFull
				isResult(t, fmt.Sprint(s, value), all(impl.MultiplyOn(m, value, factor, factor == 1)), impl.Machine{}, int64(0), outside)
			}
		}
		for _, factor := range []int64{-1, greatestFactor + 1, math.MinInt64, math.MaxInt64} {
			isResult(t, fmt.Sprint(s, factor), all(impl.MultiplyOn(m, most, factor, factor == -1)), impl.Machine{}, int64(0), outside)
			isResult(t, fmt.Sprint(s, factor), all(impl.MultiplyOn(m, 0, factor, factor != -1)), impl.Machine{}, int64(0), outside)
		}
		for _, divisor := range []int64{0, -1, most + 1, math.MinInt64, math.MaxInt64, impl.MaxValue + 1} {
			for _, dividend := range []int64{0, 1, greatestValue(s.base, s.result)} {
				isResult(t, fmt.Sprint(s, dividend, divisor), all(impl.DivideOn(m, dividend, divisor)), int64(0), int64(0), int64(0), outside)
			}
		}
		for _, dividend := range []int64{-1, greatestValue(s.base, s.result) + 1, math.MinInt64, math.MaxInt64, impl.MaxValue + 1} {
			for _, divisor := range []int64{0, 1, most, most + 1} {
				isResult(t, fmt.Sprint(s, dividend, divisor), all(impl.DivideOn(m, dividend, divisor)), int64(0), int64(0), int64(0), outside)
			}
		}
	}
}

func TestDivideOn(t *testing.T) {
	for _, c := range []struct {
		from                                  string
		dividend, divisor                     int64
		quotient, remainder, strokes, divCode int64
	}{
		{"10:00 10:00000 10:0000 0", 1234, 56, 22, 2, 18, impl.OK}, {"10:34 10:98765 10:4321 3", 1234, 56, 22, 2, 18, impl.OK}, {"10:00 10:00000 10:0000 0", 0, 56, 0, 0, 14, impl.OK}, {"10:00 10:00000 10:0000 0", 55, 56, 0, 55, 14, impl.OK}, {"10:00 10:00000 10:0000 0", 56, 56, 1, 0, 15, impl.OK},
		{"10:00 10:00000 10:0000 0", 99999, 10, 9999, 9, 50, impl.OK}, {"10:00 10:00000 10:0000 0", 99999, 9, 0, 0, 0, impl.ErrFull}, {"10:00 10:00000 10:0000 0", 89999, 9, 9999, 8, 50, impl.OK}, {"10:00 10:00000 10:0000 0", 90000, 9, 0, 0, 0, impl.ErrFull}, {"10:00 10:00000 10:0000 0", 9999, 1, 9999, 0, 50, impl.OK}, {"10:00 10:00000 10:0000 0", 10000, 1, 0, 0, 0, impl.ErrFull},
		{"10:00 10:00000 10:0000 0", 99999, 99, 1010, 9, 16, impl.OK}, {"10:00 10:00000 10:0000 0", 100000, 99, 0, 0, 0, impl.ErrRange}, {"10:00 10:00000 10:0000 0", -1, 99, 0, 0, 0, impl.ErrRange}, {"10:00 10:00000 10:0000 0", 99, 100, 0, 0, 0, impl.ErrRange}, {"10:00 10:00000 10:0000 0", 99, 0, 0, 0, 0, impl.ErrRange}, {"10:00 10:00000 10:0000 0", 99, -1, 0, 0, 0, impl.ErrRange},
		{"10:00 10:00000 10:00 0", 1234, 56, 22, 2, 10, impl.OK}, {"10:00 10:00000 10:0 0", 1234, 56, 0, 0, 0, impl.ErrFull}, {"10:00 10:00000 10:0 0", 503, 56, 8, 55, 10, impl.OK}, {"10:00 10:00000 10:0 0", 560, 56, 0, 0, 0, impl.ErrFull}, {"10:00 10:00000 10:0 0", 559, 56, 9, 55, 11, impl.OK}, {"10:00 10:00000 10:00000000 0", 1234, 56, 22, 2, 18, impl.OK},
		{"10:00 10:00 10:0000 0", 99, 10, 9, 9, 11, impl.OK}, {"10:00 10:00 10:0000 0", 99, 9, 0, 0, 0, impl.ErrFull}, {"2:0 2:0 2:0 0", 1, 1, 1, 0, 3, impl.OK}, {"2:0 2:0 2:0 0", 0, 1, 0, 0, 2, impl.OK}, {"2:1 2:11 2:11 1", 3, 1, 3, 0, 8, impl.OK}, {"16:0 16:00 16:00 0", 255, 1, 255, 0, 36, impl.OK}, {"16:0 16:00 16:00 0", 255, 15, 17, 0, 8, impl.OK},
		{"10:000000000000 10:000000000000 10:000000000000 0", 999999999999, 999999999999, 1, 0, 3, impl.OK}, {"10:0 10:000000000000 10:000000000000 0", 999999999999, 1, 999999999999, 0, 154, impl.OK}, {"16:0 16:000000000 16:000000000 0", 68719476735, 1, 68719476735, 0, 169, impl.OK}, {"10:0 10:000000000000 10:000000000000 0", impl.MaxValue, 1, 0, 0, 0, impl.ErrRange},
	} {
		what := fmt.Sprint(c.from, ": ", c.dividend, c.divisor)
		isResult(t, what, purely(t, impl.DivideOn, machine(t, c.from), c.dividend, c.divisor), c.quotient, c.remainder, c.strokes, c.divCode)
	}
}

// checkQuotient divides, and reports whether there is a quotient.
func checkQuotient(t *testing.T, s machineShape, dividend, divisor int64) bool {
	t.Helper()
	what := fmt.Sprint(s, dividend, divisor)
	quotient, remainder, strokes, code := impl.DivideOn(s.usedMachine(), dividend, divisor)
	digits := digitsWritten(s.base, dividend/divisor)
	if int64(len(digits)) > s.places() {
		isResult(t, what, all(quotient, remainder, strokes, code), int64(0), int64(0), int64(0), int64(impl.ErrFull))
		return false
	}
	want := 2*(s.places()-1) + 2*s.places() + turnsMade(digits) // to the highest place and back, and at each place one turn too many and back
	isResult(t, what, all(quotient, remainder, strokes, code), dividend/divisor, dividend%divisor, want, int64(impl.OK))
	return quotient*divisor+remainder == dividend && remainder >= 0 && remainder < divisor
}

// TestPromise12QuotientAndRemainder divides on all small machines.
func TestPromise12QuotientAndRemainder(t *testing.T) {
	for _, s := range []machineShape{{2, 1, 1, 1}, {2, 1, 2, 2}, {2, 1, 4, 5}, {2, 2, 4, 3}, {2, 2, 5, 2}, {2, 3, 6, 6}, {3, 1, 3, 3}, {3, 2, 4, 4}, {3, 2, 4, 1}, {4, 1, 3, 3}, {4, 2, 4, 2}, {5, 1, 3, 3}, {6, 1, 3, 2}, {10, 1, 2, 2}, {10, 1, 3, 2}, {10, 2, 3, 3}, {16, 1, 2, 2}} {
		done := 0
		for divisor := range greatestValue(s.base, s.setting) {
			for dividend := range greatestValue(s.base, s.result) + 1 {
				if checkQuotient(t, s, dividend, divisor+1) {
					done++
				}
			}
		}
		if done == 0 {
			t.Errorf("%v: no quotients", s)
		}
	}
}

// TestPromise12QuotientsOfAllShapes divides numbers whose quotient just has not too many places, or whose remainder is about 0.
func TestPromise12QuotientsOfAllShapes(t *testing.T) {
	random := rand.New(rand.NewSource(124))
	done, full := 0, 0
	for _, s := range someMachineShapes() {
		greatest := greatestValue(s.base, s.result)
		for _, divisor := range someValues(random, greatestValue(s.base, s.setting)) {
			if divisor == 0 || random.Intn(4) > 0 {
				continue
			}
			dividends := append(someValues(random, greatest), greatest/divisor*divisor, random.Int63n(greatest/divisor+1)*divisor)
			if limit := new(big.Int).Mul(powerOf(s.base, s.places()), big.NewInt(divisor)); limit.Cmp(big.NewInt(greatest)) <= 0 {
				dividends = append(dividends, limit.Int64(), limit.Int64()-1, limit.Int64()-divisor)
			}
			for _, dividend := range dividends {
				if checkQuotient(t, s, dividend, divisor) {
					done++
				} else {
					full++
				}
			}
		}
	}
	if done < 3000 || full < 1000 {
		t.Errorf("%d quotients, %d are too great", done, full)
	}
}

func TestSumOn(t *testing.T) {
	for _, c := range []struct {
		from    string
		values  []int64
		want    string
		strokes int64
	}{
		{"10:00 10:00000 10:0000 0", []int64{7, 12, 30}, "10:30 10:00049 10:0003 0", 4}, {"10:34 10:98765 10:4321 3", []int64{7, 12, 30}, "10:30 10:00049 10:0003 0", 4}, {"10:34 10:98765 10:4321 3", nil, "10:00 10:00000 10:0000 0", 1}, {"10:34 10:98765 10:4321 3", []int64{}, "10:00 10:00000 10:0000 0", 1},
		{"10:34 10:98765 10:4321 3", []int64{0}, "10:00 10:00000 10:0001 0", 2}, {"10:00 10:00 10:0 0", []int64{99, 99}, "10:99 10:98 10:2 0", 3}, {"10:00 10:000 10:0 0", slices.Repeat([]int64{99}, 59), "10:99 10:841 10:9 0", 60}, {"2:0 2:0 2:0 0", []int64{1, 1, 1}, "2:1 2:1 2:1 0", 4},
		{"10:000000000000 10:000000000000 10:0 0", []int64{999999999999, 2}, "10:000000000002 10:000000000001 10:2 0", 3}, {"16:00 16:0000 16:00 0", []int64{255, 255, 16}, "16:10 16:020e 16:03 0", 4},
	} {
		got := purely(t, impl.SumOn, machine(t, c.from), c.values)
		isResult(t, fmt.Sprint(c.from, c.values), all(impl.MachineText(got[0].(impl.Machine)), got[1], got[2]), c.want, c.strokes, int64(impl.OK))
	}
	for from, list := range map[string][]int64{
		"10:00 10:00000 10:0000 0": {100}, "10:01 10:00000 10:0000 0": {99, 100, 98}, "2:0 2:000 2:0 0": {1, 0, 1, 2}, "10:000000000000 10:000000000000 10:0 0": {impl.MaxValue}, "10:12 10:00000 10:0000 1": append(slices.Repeat([]int64{1}, 58), 100),
	} {
		isResult(t, fmt.Sprint(from, list), purely(t, impl.SumOn, machine(t, from), list), impl.Machine{}, int64(0), int64(impl.ErrJam))
	}
}

func TestSumsOfAllShapes(t *testing.T) {
	random := rand.New(rand.NewSource(125))
	for _, s := range someMachineShapes() {
		most := greatestValue(s.base, s.setting)
		list := someValues(random, most)[:random.Intn(3)]
		for range random.Intn(20) {
			list = append(list, random.Int63n(most+1))
		}
		sum, last := new(big.Int), new(big.Int)
		for _, n := range list {
			last = big.NewInt(n)
			sum.Add(sum, last)
		}
		count := int64(len(list))
		isResult(t, fmt.Sprint(s, list), all(impl.SumOn(s.usedMachine(), list)), s.with(last, sum, big.NewInt(count), 0), 1+count, int64(impl.OK))
		if most < impl.MaxValue {
			list = slices.Insert(list, random.Intn(len(list)+1), most+1)
			isResult(t, fmt.Sprint(s, list), all(impl.SumOn(s.usedMachine(), list)), impl.Machine{}, int64(0), int64(impl.ErrJam))
		}
	}
}

// oddsFor returns the numbers that are subtracted for a value: for each digit of its root as many as the digit tells,
// beginning with one more than twice the digits before it, as a number that ends in 0.
func oddsFor(base, value int64) (root int64, odds []int64) {
	root = new(big.Int).Sqrt(big.NewInt(value)).Int64()
	before := int64(0)
	for _, digit := range slices.Backward(digitsWritten(base, root)) {
		for i := range digit {
			odds = append(odds, 2*before*base+1+2*i)
		}
		before = before*base + digit
	}
	return root, odds
}

func checkRoot(t *testing.T, base, value int64) {
	t.Helper()
	what := fmt.Sprint(value, " in base ", base)
	root, odds := oddsFor(base, value)
	isResult(t, what, all(impl.RootOf(base, value)), root, value-root*root, int64(len(odds)), int64(impl.OK))
	list, code := impl.RootTurns(base, value)
	isResult(t, what, all(append([]int64(nil), list...), code), odds, int64(impl.OK))
}

func TestRoots(t *testing.T) {
	for _, c := range []struct {
		base, value, root, rest int64
		odds                    []int64
	}{
		{10, 0, 0, 0, nil}, {10, 1, 1, 0, []int64{1}}, {10, 2, 1, 1, []int64{1}}, {10, 3, 1, 2, []int64{1}}, {10, 4, 2, 0, []int64{1, 3}}, {10, 10, 3, 1, []int64{1, 3, 5}}, {10, 99, 9, 18, []int64{1, 3, 5, 7, 9, 11, 13, 15, 17}}, {10, 100, 10, 0, []int64{1}},
		{10, 144, 12, 0, []int64{1, 21, 23}}, {10, 143, 11, 22, []int64{1, 21}}, {10, 1000, 31, 39, []int64{1, 3, 5, 61}}, {10, 10201, 101, 0, []int64{1, 201}}, {10, 40000, 200, 0, []int64{1, 3}}, {2, 1, 1, 0, []int64{1}}, {2, 2, 1, 1, []int64{1}}, {2, 3, 1, 2, []int64{1}}, {2, 4, 2, 0, []int64{1}}, {2, 9, 3, 0, []int64{1, 5}}, {2, 49, 7, 0, []int64{1, 5, 13}},
		{16, 255, 15, 30, []int64{1, 3, 5, 7, 9, 11, 13, 15, 17, 19, 21, 23, 25, 27, 29}}, {16, 256, 16, 0, []int64{1}}, {16, 324, 18, 0, []int64{1, 33, 35}}, {10, impl.MaxValue, 1000000, 0, []int64{1}}, {10, 999998000001, 999999, 0, nil}, {10, impl.MaxValue - 1, 999999, 1999998, nil},
	} {
		what := fmt.Sprint(c.value, " in base ", c.base)
		got := purely(t, impl.RootTurns, c.base, c.value)
		odds := got[0].([]int64)
		if c.odds != nil || c.value == 0 {
			isResult(t, what, all(append([]int64(nil), odds...)), c.odds)
		}
		isResult(t, what, got[1:], int64(impl.OK))
		isResult(t, what, purely(t, impl.RootOf, c.base, c.value), c.root, c.rest, int64(len(odds)), int64(impl.OK))
	}
}

func TestRootsOfManyValues(t *testing.T) {
	random := rand.New(rand.NewSource(126))
	for base := int64(2); base <= 16; base++ {
		for value := range int64(3000) {
			checkRoot(t, base, value)
		}
		for power := base; power <= impl.MaxValue; power *= base {
			for by := int64(-3); by <= 3; by++ {
				checkRoot(t, base, min(power+by+3, impl.MaxValue))
				checkRoot(t, base, power-1)
			}
		}
		for range 500 {
			root := random.Int63n(1 + random.Int63n(1000000))
			for by := int64(-1); by <= 1; by++ {
				checkRoot(t, base, max(root*root+by, 0))
			}
			checkRoot(t, base, random.Int63n(impl.MaxValue+1))
		}
		for by := range int64(5) {
			checkRoot(t, base, impl.MaxValue-by)
		}
	}
}

func TestOtherRootsAreRejected(t *testing.T) {
	outside := int64(impl.ErrRange)
	check := func(base, value int64) {
		t.Helper()
		what := fmt.Sprint(base, value)
		isResult(t, what, purely(t, impl.RootOf, base, value), int64(0), int64(0), int64(0), outside)
		isResult(t, what, purely(t, impl.RootTurns, base, value), []int64(nil), outside)
	}
	for _, base := range []int64{0, 1, 17, 18, -1, -10, 256 + 10, 1<<32 + 10, math.MaxInt64, math.MinInt64} {
		for _, value := range []int64{0, 1, 144, impl.MaxValue, -1} {
			check(base, value)
		}
	}
	for base := int64(2); base <= 16; base++ {
		for _, value := range []int64{-1, -144, impl.MaxValue + 1, 2 * impl.MaxValue, math.MaxInt64, math.MinInt64} {
			check(base, value)
		}
	}
}

// TestProgramsOfMethods runs the programs themselves, which do what is told on any machine.
func TestProgramsOfMethods(t *testing.T) {
	m := machine(t, "10:12 10:00000 10:0000 0")
	for factor := range int64(833) {
		for _, short := range []bool{false, true} {
			list, _ := impl.MultiplyProgram(10, factor, short)
			after, _, code := impl.RunProgram(m, list)
			result, _ := impl.ValueOf(after.Result)
			isResult(t, fmt.Sprint(factor), all(result, code), 12*factor, int64(impl.OK))
		}
	}
	list, _ := impl.SumProgram([]int64{1, 2, 3})
	after, strokes, code := impl.RunProgram(machine(t, "10:99 10:98765 10:4321 0"), list)
	isResult(t, "sum", all(impl.MachineText(after), strokes, code), "10:03 10:00006 10:0003 0", int64(4), int64(impl.OK))
	list, _ = impl.DivideProgram(2)
	after, strokes, code = impl.RunProgram(machine(t, "10:03 10:00047 10:0000 0"), list)
	isResult(t, "division", all(impl.MachineText(after), strokes, code), "10:03 10:00002 10:9985 0", int64(12), int64(impl.OK))
}
