package tests

import (
	"fmt"
	"math"
	"math/big"
	"math/rand"
	"slices"
	"strconv"
	"strings"
	"testing"

	"loop.example/g00930/impl"
)

// machine returns the machine with a text; it may be one that is not valid.
func machine(t *testing.T, text string) impl.Machine {
	t.Helper()
	parts := strings.Fields(text)
	if len(parts) != 4 {
		t.Fatalf("%q is no machine", text)
	}
	place, err := strconv.ParseInt(parts[3], 10, 64)
	if err != nil {
		t.Fatal(err)
	}
	return impl.Machine{Setting: read(t, parts[0]), Result: read(t, parts[1]), Count: read(t, parts[2]), Place: place}
}

// machineShape is a base and the widths of the registers of machines.
type machineShape struct {
	base                   int64
	setting, result, count int
}

// machineShapes has all shapes with which there are machines.
func machineShapes() []machineShape {
	var list []machineShape
	for base := int64(2); base <= impl.MaxBase; base++ {
		most := int(widest[base])
		for result := 1; result <= most; result++ {
			for setting := 1; setting <= result; setting++ {
				for count := 1; count <= most; count++ {
					list = append(list, machineShape{base, setting, result, count})
				}
			}
		}
	}
	return list
}

// someMachineShapes has those of the least and greatest widths, and some others.
func someMachineShapes() []machineShape {
	return slices.DeleteFunc(machineShapes(), func(s machineShape) bool {
		most := int(widest[s.base])
		isOdd := func(width int) bool { return width > 2 && width < most-1 && width != 7 }
		return isOdd(s.result) || isOdd(s.setting) && s.setting < s.result-1 || isOdd(s.count)
	})
}

// places counts the places at which the Setting is above digits of the Result, and a digit of the Count is there.
func (s machineShape) places() int64 {
	count := int64(0)
	for place := 0; place+s.setting <= s.result && place < s.count; place++ {
		count++
	}
	return count
}

// values returns the number of values of a register of a width.
func (s machineShape) values(width int) *big.Int { return powerOf(s.base, int64(width)) }

func powerOf(base, exponent int64) *big.Int {
	return new(big.Int).Exp(big.NewInt(base), big.NewInt(exponent), nil)
}

// with returns the machine of this shape with some values, each modulo the number of values of its register.
func (s machineShape) with(setting, result, count *big.Int, place int64) impl.Machine {
	m := impl.Machine{Place: place}
	m.Setting, _ = bigDigits(s.base, s.setting, setting)
	m.Result, _ = bigDigits(s.base, s.result, result)
	m.Count, _ = bigDigits(s.base, s.count, count)
	return m
}

// zero returns the machine of this shape on which everything is 0.
func (s machineShape) zero() impl.Machine {
	return s.with(new(big.Int), new(big.Int), new(big.Int), 0)
}

func machineShapeOf(m impl.Machine) machineShape {
	return machineShape{m.Setting.Base, len(m.Setting.Digits), len(m.Result.Digits), len(m.Count.Digits)}
}

// machines returns machines of this shape whose Result is about 0 or its greatest value, or becomes it at the next stroke, and random ones.
func (s machineShape) machines(random *rand.Rand, place int64) []impl.Machine {
	one := big.NewInt(1)
	anyOf := func(width int) *big.Int { return new(big.Int).Rand(random, s.values(width)) }
	lack := func(n *big.Int) *big.Int { return new(big.Int).Sub(s.values(s.result), n) }
	counts := []*big.Int{new(big.Int), big.NewInt(-1), anyOf(s.count)}
	var list []impl.Machine
	for _, setting := range []*big.Int{new(big.Int), one, new(big.Int).Sub(s.values(s.setting), one), anyOf(s.setting)} {
		added := new(big.Int).Mul(setting, powerOf(s.base, place))
		for _, result := range []*big.Int{
			new(big.Int), lack(one), added, new(big.Int).Sub(added, one), lack(added), lack(new(big.Int).Add(added, one)), anyOf(s.result),
		} {
			list = append(list, s.with(setting, result, counts[len(list)%len(counts)], place))
		}
	}
	return list
}

// someMachines has valid machines of many shapes.
func someMachines() []impl.Machine {
	random := rand.New(rand.NewSource(101))
	var list []impl.Machine
	for i, s := range someMachineShapes() {
		machines := s.machines(random, random.Int63n(s.places()))
		list = append(list, machines[i%len(machines)])
	}
	return list
}

// smallMachines has all machines of the least shapes.
func smallMachines() []impl.Machine {
	var list []impl.Machine
	for _, s := range []machineShape{{2, 1, 1, 1}, {2, 1, 2, 1}, {2, 1, 2, 2}, {2, 1, 3, 2}, {2, 2, 2, 1}, {2, 2, 2, 2}, {2, 2, 3, 1}, {2, 2, 3, 3}, {2, 2, 4, 2}, {2, 3, 4, 1}, {3, 1, 1, 1}, {3, 1, 2, 1}, {3, 1, 2, 2}, {3, 2, 2, 1}, {4, 1, 2, 2}, {5, 1, 1, 2}, {7, 1, 2, 1}, {10, 1, 1, 1}} {
		for _, setting := range registersOf(s.base, s.setting) {
			for _, result := range registersOf(s.base, s.result) {
				for _, count := range registersOf(s.base, s.count) {
					for place := range s.places() {
						list = append(list, impl.Machine{Setting: setting, Result: result, Count: count, Place: place})
					}
				}
			}
		}
	}
	return list
}

func invalidMachines() []impl.Machine {
	good := machineShape{10, 3, 6, 4}.zero()
	list := []impl.Machine{{}, {Setting: good.Setting}, {Setting: good.Setting, Result: good.Result}, {Result: good.Result, Count: good.Count}, {Setting: good.Setting, Count: good.Count}}
	for _, bad := range append(invalidRegisters(), reg(9, 0), reg(9, 0, 0, 0), reg(2, 0, 0, 0), reg(16, 0, 0, 0), reg(11, 0, 0, 0)) { // the last ones have another base
		list = append(list, impl.Machine{Setting: bad, Result: good.Result, Count: good.Count}, impl.Machine{Setting: good.Setting, Result: bad, Count: good.Count},
			impl.Machine{Setting: good.Setting, Result: good.Result, Count: bad}, impl.Machine{Setting: good.Setting, Result: bad, Count: bad},
			impl.Machine{Setting: bad, Result: good.Result, Count: bad}, impl.Machine{Setting: bad, Result: bad, Count: good.Count})
	}
	for _, bad := range invalidRegisters() {
		list = append(list, impl.Machine{Setting: bad, Result: bad, Count: bad})
	}
	for _, wide := range tooWide() {
		narrow := reg(wide.Base, 1)
		list = append(list, impl.Machine{Setting: narrow, Result: wide, Count: narrow}, impl.Machine{Setting: narrow, Result: narrow, Count: wide},
			impl.Machine{Setting: wide, Result: wide, Count: narrow}, impl.Machine{Setting: wide, Result: narrow, Count: narrow})
	}
	for _, place := range []int64{-1, 4, 5, -4, 1 << 32, math.MaxInt64, math.MinInt64} {
		m := good
		m.Place = place
		list = append(list, m)
	}
	for _, s := range []machineShape{{10, 7, 6, 4}, {10, 2, 1, 1}, {2, 16, 15, 16}, {3, 12, 4, 2}} { // the Setting is wider than the Result
		list = append(list, s.zero(), s.with(new(big.Int), new(big.Int), new(big.Int), -1))
	}
	for _, s := range []machineShape{{10, 3, 6, 3}, {10, 3, 6, 9}, {10, 3, 3, 9}, {2, 1, 16, 16}, {10, 1, 1, 1}, {10, 2, 9, 1}} {
		list = append(list, s.with(new(big.Int), new(big.Int), new(big.Int), s.places()), s.with(new(big.Int), new(big.Int), new(big.Int), -1))
	}
	return list
}

var strokes = []int64{impl.StrokeAdd, impl.StrokeSub, impl.StrokeRight, impl.StrokeLeft, impl.StrokeClear, impl.StrokeZero}

var noStrokes = []int64{0, -1, 7, 8, 255, 256 + impl.StrokeAdd, 1<<32 + impl.StrokeAdd, -impl.StrokeSub, math.MaxInt64, math.MinInt64}

// strokeDone returns a machine after a stroke, and whether the bell rings. It computes with values, not with digits.
func strokeDone(m impl.Machine, kind int64) (impl.Machine, bool) {
	s := machineShapeOf(m)
	setting, result, count := bigValue(m.Setting), bigValue(m.Result), bigValue(m.Count)
	switch kind {
	case impl.StrokeAdd:
		one := powerOf(s.base, m.Place)
		result.Add(result, new(big.Int).Mul(setting, one))
		return s.with(setting, result, count.Add(count, one), m.Place), result.Cmp(s.values(s.result)) >= 0
	case impl.StrokeSub:
		one := powerOf(s.base, m.Place)
		result.Sub(result, new(big.Int).Mul(setting, one))
		return s.with(setting, result, count.Sub(count, one), m.Place), result.Sign() < 0
	case impl.StrokeRight:
		if m.Place+1 == s.places() {
			return m, true
		}
		return s.with(setting, result, count, m.Place+1), false
	case impl.StrokeLeft:
		if m.Place == 0 {
			return m, true
		}
		return s.with(setting, result, count, m.Place-1), false
	case impl.StrokeClear:
		return s.with(setting, new(big.Int), new(big.Int), m.Place), false
	}
	return s.with(new(big.Int), result, count, m.Place), false
}

// strokesDone returns a machine after strokes, and how many are made, up to the first bell.
func strokesDone(m impl.Machine, list []int64) (impl.Machine, int64) {
	for i, kind := range list {
		var bell bool
		if m, bell = strokeDone(m, kind); bell {
			return m, int64(i + 1)
		}
	}
	return m, int64(len(list))
}

func TestPromise1Machines(t *testing.T) {
	var machines []impl.Machine
	for i, m := range append(someMachines(), invalidMachines()...) {
		if i%5 == 0 {
			machines = append(machines, m)
		}
	}
	for i, m := range machines {
		purely(t, impl.ValidMachine, m)
		purely(t, impl.PlacesOf, m)
		purely(t, impl.MachineText, m)
		purely(t, impl.ReadMachine, impl.MachineText(m))
		for _, kind := range append(strokes, noStrokes...) {
			purely(t, impl.DoStroke, m, kind)
		}
		for j, n := range oddNumbers {
			if (i+j)%3 == 0 {
				purely(t, impl.SetValue, m, n)
				purely(t, impl.SetDigit, m, n%5, oddNumbers[i%len(oddNumbers)])
				purely(t, impl.SetDigit, m, n, int64(1))
				purely(t, impl.DoStrokes, m, []int64{1, n, 3})
			}
		}
		for _, list := range [][]int64{nil, {}, strokes, noStrokes, {2}, {1, 1, 3, 1, 4, 2}, {5, 6}, slices.Repeat([]int64{1, 3, 2}, 100), make([]int64, 301)} {
			purely(t, impl.DoStrokes, m, list)
		}
	}
	for i, a := range machines {
		for j, b := range machines {
			if (i+j)%41 == 0 || i == j {
				purely(t, impl.SameMachine, a, b)
			}
		}
	}
}

func TestPromise1NumbersForMachines(t *testing.T) {
	for _, n := range append(oddNumbers, strokes...) {
		purely(t, impl.StrokeBack, n)
		purely(t, impl.StrokeName, n)
	}
	for _, base := range oddNumbers {
		for _, width := range oddNumbers {
			purely(t, impl.NewMachine, base, width, width, width)
			purely(t, impl.NewMachine, base, width, int64(3), int64(2))
			purely(t, impl.NewMachine, base, int64(1), width, int64(2))
			purely(t, impl.NewMachine, base, int64(2), int64(3), width)
		}
	}
	for _, s := range append(oddTexts, otherMachineTexts...) {
		purely(t, impl.ReadMachine, s)
	}
}

// TestMachineWithOneMemory has a machine whose registers have the same digits in memory: they are as independent as others.
func TestMachineWithOneMemory(t *testing.T) {
	digits := []int64{2, 1, 7}
	r := impl.Register{Base: 10, Digits: digits}
	m := impl.Machine{Setting: r, Result: r, Count: r}
	for _, kind := range strokes {
		want, rings := strokeDone(machine(t, "10:712 10:712 10:712 0"), kind)
		got, bell, code := impl.DoStroke(m, kind)
		isResult(t, impl.StrokeName(kind), all(got, bell, code), want, rings, int64(impl.OK))
		got.Setting.Digits[0], got.Result.Digits[0], got.Count.Digits[0] = 7, 8, 9
		isResult(t, "the results", all(got.Setting.Digits[0], got.Result.Digits[0], got.Count.Digits[0]), int64(7), int64(8), int64(9))
	}
	set, _ := impl.SetDigit(m, 0, 5)
	isResult(t, "digit", all(impl.MachineText(set)), "10:715 10:712 10:712 0")
	set, _ = impl.SetValue(m, 3)
	isResult(t, "value", all(impl.MachineText(set)), "10:003 10:712 10:712 0")
	isResult(t, "the digits", all(digits), []int64{2, 1, 7})
}

func TestConstantsOfMachines(t *testing.T) {
	got := all(int64(impl.StrokeAdd), int64(impl.StrokeSub), int64(impl.StrokeRight), int64(impl.StrokeLeft), int64(impl.StrokeClear), int64(impl.StrokeZero), int64(impl.MaxStrokes))
	isResult(t, "constants", got, int64(1), int64(2), int64(3), int64(4), int64(5), int64(6), int64(300))
}

func TestValidMachine(t *testing.T) {
	for _, m := range invalidMachines() {
		if impl.ValidMachine(m) {
			t.Errorf("%+v is not valid", m)
		}
	}
	for _, m := range slices.Concat(smallMachines(), someMachines()) {
		if !impl.ValidMachine(m) {
			t.Errorf("%+v is valid", m)
		}
	}
	for _, text := range []string{
		"10:012 10:000120 10:0010 1", "10:000 10:000000 10:0000 3", "10:000 10:000000 10:00 1", "10:000 10:000000 10:000000000000 3", "10:000 10:000 10:0000 0", "10:0 10:0 10:0 0", "10:9 10:9 10:9 0",
		"10:999999999999 10:999999999999 10:999999999999 0", "10:0 10:000000000000 10:000000000000 11", "2:1 2:0000000000000000 2:0000000000000000 15", "2:1111111111111111 2:0000000000000000 2:0 0",
		"16:f 16:fffffffff 16:fffffffff 8", "6:0 6:000000000000000 6:000000000000000 14",
	} {
		if !impl.ValidMachine(machine(t, text)) {
			t.Errorf("%q is valid", text)
		}
	}
	for _, text := range []string{
		"10:000 10:000000 10:0000 4", "10:000 10:000000 10:0000 -1", "10:000 10:000000 10:00 2", "10:000 10:000000 10:000000000000 4", "10:000 10:000 10:0000 1", "10:0000 10:000 10:0000 0", "10:0000 10:000 10:0000 -1",
		"10:000 10:0000000000000 10:0000 0", "10:000 10:000000 10:0000000000000 0", "10:0000000000000 10:000000 10:0000 0", "10:0000000000000 10:0000000000000 10:0000 0",
		"9:000 10:000000 10:0000 0", "10:000 9:000000 10:0000 0", "10:000 10:000000 9:0000 0", "9:000 9:000000 10:0000 0", "10:000 9:000000 9:0000 0", "9:000 10:000000 9:0000 0",
		"16:f 16:0000000000 16:fffffffff 0", "16:f 16:fffffffff 16:0000000000 0", "6:0 6:0000000000000000 6:0 0", "6:0 6:0 6:0000000000000000 0", "2:0 2:0000000000000000 2:0000000000000000 16",
	} {
		if impl.ValidMachine(machine(t, text)) {
			t.Errorf("%q is not valid", text)
		}
	}
}

// TestMachinesOfAllShapes makes machines of all widths, and looks for all places.
func TestMachinesOfAllShapes(t *testing.T) {
	shapes := map[machineShape]bool{}
	for _, s := range machineShapes() {
		shapes[s] = true
	}
	made := 0
	for base := int64(1); base <= impl.MaxBase+1; base++ {
		for setting := range int64(18) {
			for result := range int64(18) {
				for count := range int64(18) {
					s := machineShape{base, int(setting), int(result), int(count)}
					m, code := impl.NewMachine(base, setting, result, count)
					if !shapes[s] {
						isResult(t, fmt.Sprint(s), all(m, code), impl.Machine{}, int64(impl.ErrRange))
						continue
					}
					made++
					isResult(t, fmt.Sprint(s), all(m, code), s.zero(), int64(impl.OK))
					isResult(t, fmt.Sprint(s), all(impl.PlacesOf(m)), s.places(), int64(impl.OK))
					for m.Place = -1; m.Place <= s.places(); m.Place++ {
						if impl.ValidMachine(m) != (m.Place >= 0 && m.Place < s.places()) {
							t.Errorf("%v: at the place %d, of %d, ValidMachine is %v", s, m.Place, s.places(), impl.ValidMachine(m))
						}
					}
				}
			}
		}
	}
	if made != len(shapes) {
		t.Errorf("%d machines of %d shapes", made, len(shapes))
	}
}

func TestNewMachine(t *testing.T) {
	for _, c := range []struct {
		base, setting, result, count int64
		want                         string // none for ErrRange
	}{
		{10, 3, 6, 4, "10:000 10:000000 10:0000 0"}, {10, 3, 3, 1, "10:000 10:000 10:0 0"}, {2, 1, 1, 1, "2:0 2:0 2:0 0"}, {16, 9, 9, 9, "16:000000000 16:000000000 16:000000000 0"},
		{10, 12, 12, 12, "10:000000000000 10:000000000000 10:000000000000 0"}, {2, 16, 16, 16, "2:0000000000000000 2:0000000000000000 2:0000000000000000 0"}, {10, 1, 2, 12, "10:0 10:00 10:000000000000 0"},
		{10, 3, 13, 4, ""}, {10, 3, 6, 13, ""}, {10, 13, 13, 4, ""}, {10, 7, 6, 4, ""}, {10, 2, 1, 1, ""}, {16, 3, 10, 4, ""}, {16, 3, 6, 10, ""}, {6, 1, 16, 1, ""}, {6, 1, 1, 16, ""}, {2, 16, 15, 16, ""},
		{10, 0, 6, 4, ""}, {10, 3, 0, 4, ""}, {10, 3, 6, 0, ""}, {10, -3, 6, 4, ""}, {10, 3, -6, 4, ""}, {10, 3, 6, -4, ""}, {10, 0, 0, 0, ""}, {1, 3, 6, 4, ""}, {0, 3, 6, 4, ""}, {17, 3, 6, 4, ""}, {-10, 3, 6, 4, ""},
		{2, 1, 17, 1, ""}, {2, 1, 1, 17, ""}, {2, 17, 17, 1, ""}, {10, math.MaxInt64, 6, 4, ""}, {10, 3, math.MaxInt64, 4, ""}, {10, 3, 6, math.MaxInt64, ""}, {10, math.MinInt64, 6, 4, ""}, {10, 3, math.MinInt64, 4, ""}, {10, 3, 6, math.MinInt64, ""},
		{math.MaxInt64, 3, 6, 4, ""}, {math.MinInt64, 3, 6, 4, ""}, {1<<32 + 10, 3, 6, 4, ""}, {10, 1<<32 + 3, 6, 4, ""}, {10, 3, 1<<32 + 6, 4, ""}, {10, 3, 6, 1<<32 + 4, ""},
	} {
		what := fmt.Sprint(c.base, c.setting, c.result, c.count)
		got := purely(t, impl.NewMachine, c.base, c.setting, c.result, c.count)
		if c.want == "" {
			isResult(t, what, got, impl.Machine{}, int64(impl.ErrRange))
		} else {
			isResult(t, what, got, machine(t, c.want), int64(impl.OK))
		}
	}
}

// TestInvalidMachinesAreRejected checks that ErrInvalid comes before all other errors.
func TestInvalidMachinesAreRejected(t *testing.T) {
	none, invalid := impl.Machine{}, int64(impl.ErrInvalid)
	for _, bad := range invalidMachines() {
		isResult(t, "places", purely(t, impl.PlacesOf, bad), int64(0), invalid)
		isResult(t, "text", purely(t, impl.MachineText, bad), "")
		for _, n := range []int64{0, 1, -1, 7, 1000, impl.MaxValue + 1, math.MaxInt64, math.MinInt64} {
			isResult(t, "value", all(impl.SetValue(bad, n)), none, invalid)
			isResult(t, "digit", all(impl.SetDigit(bad, 0, n)), none, invalid)
			isResult(t, "digit", all(impl.SetDigit(bad, n, 1)), none, invalid)
			isResult(t, "stroke", all(impl.DoStroke(bad, n)), none, false, invalid)
			isResult(t, "strokes", all(impl.DoStrokes(bad, []int64{n})), none, int64(0), invalid)
		}
		for _, list := range [][]int64{nil, strokes, noStrokes, slices.Repeat([]int64{1}, 301), make([]int64, 301)} {
			isResult(t, "strokes", all(impl.DoStrokes(bad, list)), none, int64(0), invalid)
		}
		for _, kind := range strokes {
			isResult(t, "stroke", all(impl.DoStroke(bad, kind)), none, false, invalid)
		}
	}
}

func TestSameMachine(t *testing.T) {
	m := machine(t, "10:012 10:000120 10:0010 1")
	list := []impl.Machine{m, {}, {Place: 1}, {Place: -1}, {Setting: reg(10)}, {Result: reg(10)}, {Count: reg(10)}, {Setting: reg(-1, 5)}, {Result: reg(-1, 5)}, {Count: reg(-1, 5)}}
	for _, text := range []string{
		"10:013 10:000120 10:0010 1", "10:012 10:000121 10:0010 1", "10:012 10:000120 10:0011 1", "10:012 10:000120 10:0010 0", "10:012 10:000120 10:0010 9", "10:012 10:000120 10:0010 -1", "10:0012 10:000120 10:0010 1",
		"10:012 10:0000120 10:0010 1", "10:012 10:000120 10:00010 1", "11:012 10:000120 10:0010 1", "10:012 11:000120 10:0010 1", "10:012 10:000120 11:0010 1", "11:012 11:000120 11:0010 1", "10:112 10:000120 10:0010 1",
		"10:012 10:100120 10:0010 1", "10:012 10:000120 10:1010 1", "10:012 10:000120 10:0010 1000000",
	} {
		list = append(list, machine(t, text))
	}
	for i, a := range list {
		for j := range list {
			b := roomyMachine(list[j])
			isResult(t, fmt.Sprint(i, j), purely(t, impl.SameMachine, a, b), i == j)
		}
	}
	empty := impl.Machine{Setting: impl.Register{Digits: []int64{}}, Result: impl.Register{Digits: []int64{}}, Count: impl.Register{Digits: []int64{}}}
	if !impl.SameMachine(empty, impl.Machine{}) || !impl.SameMachine(impl.Machine{}, empty) {
		t.Error("no digits and empty digits are the same")
	}
}

// roomyMachine returns an equal machine, which has other memory and unused capacity.
func roomyMachine(m impl.Machine) impl.Machine {
	for _, r := range []*impl.Register{&m.Setting, &m.Result, &m.Count} {
		r.Digits = append(slices.Clone(r.Digits), 1, 2, 3)[:len(r.Digits)]
	}
	return m
}

func TestSetValue(t *testing.T) {
	for _, c := range []struct {
		from  string
		value int64
		want  string // none for ErrRange
	}{
		{"10:012 10:000120 10:0010 1", 7, "10:007 10:000120 10:0010 1"}, {"10:012 10:000120 10:0010 1", 0, "10:000 10:000120 10:0010 1"}, {"10:012 10:000120 10:0010 1", 999, "10:999 10:000120 10:0010 1"},
		{"10:012 10:000120 10:0010 1", 1000, ""}, {"10:012 10:000120 10:0010 1", -1, ""}, {"10:012 10:000120 10:0010 1", 1001, ""}, {"10:012 10:000120 10:0010 1", impl.MaxValue, ""}, {"10:012 10:000120 10:0010 1", impl.MaxValue + 1, ""},
		{"10:012 10:000120 10:0010 1", math.MaxInt64, ""}, {"10:012 10:000120 10:0010 1", math.MinInt64, ""}, {"10:012 10:000120 10:0010 1", 1<<32 + 5, ""}, {"10:012 10:000120 10:0010 1", -999, ""},
		{"2:1 2:11 2:10 1", 0, "2:0 2:11 2:10 1"}, {"2:1 2:11 2:10 1", 1, "2:1 2:11 2:10 1"}, {"2:1 2:11 2:10 1", 2, ""}, {"16:00 16:123 16:4 0", 255, "16:ff 16:123 16:4 0"}, {"16:00 16:123 16:4 0", 256, ""},
		{"10:000000000000 10:000000000005 10:3 0", 999999999999, "10:999999999999 10:000000000005 10:3 0"}, {"10:000000000000 10:000000000005 10:3 0", impl.MaxValue, ""}, {"10:000000000000 10:000000000005 10:3 0", impl.MaxValue + 1, ""},
	} {
		what := fmt.Sprint(c.from, ": ", c.value)
		got := purely(t, impl.SetValue, machine(t, c.from), c.value)
		if c.want == "" {
			isResult(t, what, got, impl.Machine{}, int64(impl.ErrRange))
		} else {
			isResult(t, what, got, machine(t, c.want), int64(impl.OK))
		}
	}
}

func TestSetValueOfAllShapes(t *testing.T) {
	for _, m := range someMachines() {
		s := machineShapeOf(m)
		count := s.values(s.setting).Int64()
		for _, value := range []int64{-1, 0, 1, count / 2, count - 1, count, count + 1} {
			got := all(impl.SetValue(m, value))
			if value < 0 || value >= count {
				isResult(t, fmt.Sprint(m, value), got, impl.Machine{}, int64(impl.ErrRange))
			} else {
				isResult(t, fmt.Sprint(m, value), got, s.with(big.NewInt(value), bigValue(m.Result), bigValue(m.Count), m.Place), int64(impl.OK))
			}
		}
	}
}

func TestSetDigit(t *testing.T) {
	for _, c := range []struct {
		from     string
		k, digit int64
		want     string // none for ErrRange
	}{
		{"10:012 10:000120 10:0010 1", 0, 7, "10:017 10:000120 10:0010 1"}, {"10:012 10:000120 10:0010 1", 2, 9, "10:912 10:000120 10:0010 1"}, {"10:012 10:000120 10:0010 1", 1, 0, "10:002 10:000120 10:0010 1"},
		{"10:012 10:000120 10:0010 1", 1, 1, "10:012 10:000120 10:0010 1"}, {"10:012 10:000120 10:0010 1", 3, 1, ""}, {"10:012 10:000120 10:0010 1", -1, 1, ""}, {"10:012 10:000120 10:0010 1", 0, 10, ""},
		{"10:012 10:000120 10:0010 1", 0, -1, ""}, {"10:012 10:000120 10:0010 1", 5, 1, ""}, {"10:012 10:000120 10:0010 1", 3, 10, ""}, {"10:012 10:000120 10:0010 1", math.MaxInt64, 1, ""}, {"10:012 10:000120 10:0010 1", math.MinInt64, 1, ""},
		{"10:012 10:000120 10:0010 1", 1 << 32, 1, ""}, {"10:012 10:000120 10:0010 1", 0, math.MaxInt64, ""}, {"10:012 10:000120 10:0010 1", 0, math.MinInt64, ""}, {"10:012 10:000120 10:0010 1", 0, 1 << 32, ""},
		{"2:0 2:11 2:10 1", 0, 1, "2:1 2:11 2:10 1"}, {"2:0 2:11 2:10 1", 0, 2, ""}, {"2:0 2:11 2:10 1", 1, 0, ""}, {"16:00 16:123 16:4 0", 1, 15, "16:f0 16:123 16:4 0"}, {"16:00 16:123 16:4 0", 1, 16, ""}, {"16:00 16:123 16:4 0", 2, 15, ""},
		{"10:999999999999 10:000000000005 10:3 0", 11, 8, "10:899999999999 10:000000000005 10:3 0"}, {"10:999999999999 10:000000000005 10:3 0", 12, 0, ""},
	} {
		what := fmt.Sprint(c.from, ": ", c.k, c.digit)
		got := purely(t, impl.SetDigit, machine(t, c.from), c.k, c.digit)
		if c.want == "" {
			isResult(t, what, got, impl.Machine{}, int64(impl.ErrRange))
		} else {
			isResult(t, what, got, machine(t, c.want), int64(impl.OK))
		}
	}
}

func TestSetAllDigits(t *testing.T) {
	for _, m := range someMachines() {
		for k := int64(-1); k <= 17; k++ {
			for digit := int64(-1); digit <= 17; digit++ {
				got := all(impl.SetDigit(m, k, digit))
				if k < 0 || k >= int64(len(m.Setting.Digits)) || digit < 0 || digit >= m.Setting.Base {
					isResult(t, fmt.Sprint(m, k, digit), got, impl.Machine{}, int64(impl.ErrRange))
					continue
				}
				want := roomyMachine(m)
				want.Setting.Digits[k] = digit
				isResult(t, fmt.Sprint(m, k, digit), got, want, int64(impl.OK))
			}
		}
	}
}

func TestDoStroke(t *testing.T) {
	for _, c := range []struct {
		from string
		kind int64
		want string
		bell bool
	}{
		{"10:012 10:000000 10:0000 1", impl.StrokeAdd, "10:012 10:000120 10:0010 1", false},
		{"10:012 10:000000 10:0000 0", impl.StrokeAdd, "10:012 10:000012 10:0001 0", false},
		{"10:012 10:000000 10:0000 3", impl.StrokeAdd, "10:012 10:012000 10:1000 3", false},
		{"10:999 10:000000 10:0000 3", impl.StrokeAdd, "10:999 10:999000 10:1000 3", false},
		{"10:012 10:000000 10:0000 0", impl.StrokeSub, "10:012 10:999988 10:9999 0", true},
		{"10:012 10:000120 10:0010 1", impl.StrokeSub, "10:012 10:000000 10:0000 1", false},
		{"10:012 10:000119 10:0010 1", impl.StrokeSub, "10:012 10:999999 10:0000 1", true},
		{"10:012 10:000121 10:0000 1", impl.StrokeSub, "10:012 10:000001 10:9990 1", false}, // the Count has no bell
		{"10:000 10:000000 10:0000 2", impl.StrokeSub, "10:000 10:000000 10:9900 2", false},
		{"10:000 10:999999 10:9999 0", impl.StrokeAdd, "10:000 10:999999 10:0000 0", false},
		{"10:001 10:999999 10:0000 0", impl.StrokeAdd, "10:001 10:000000 10:0001 0", true}, // the sum is the number of values
		{"10:001 10:999998 10:0000 0", impl.StrokeAdd, "10:001 10:999999 10:0001 0", false},
		{"10:001 10:999998 10:9999 0", impl.StrokeAdd, "10:001 10:999999 10:0000 0", false},
		{"10:002 10:999999 10:9999 0", impl.StrokeAdd, "10:002 10:000001 10:0000 0", true},
		{"10:999 10:999999 10:9999 3", impl.StrokeAdd, "10:999 10:998999 10:0999 3", true},
		{"10:999 10:001000 10:0000 3", impl.StrokeAdd, "10:999 10:000000 10:1000 3", true},
		{"10:999 10:000999 10:0000 3", impl.StrokeAdd, "10:999 10:999999 10:1000 3", false},
		{"10:999 10:999000 10:0000 3", impl.StrokeSub, "10:999 10:000000 10:9000 3", false},
		{"10:999 10:998999 10:0000 3", impl.StrokeSub, "10:999 10:999999 10:9000 3", true},
		{"10:012 10:000120 10:0010 1", impl.StrokeRight, "10:012 10:000120 10:0010 2", false},
		{"10:012 10:000120 10:0010 2", impl.StrokeRight, "10:012 10:000120 10:0010 3", false},
		{"10:012 10:000120 10:0010 3", impl.StrokeRight, "10:012 10:000120 10:0010 3", true},
		{"10:012 10:000120 10:0010 1", impl.StrokeLeft, "10:012 10:000120 10:0010 0", false},
		{"10:012 10:000120 10:0010 0", impl.StrokeLeft, "10:012 10:000120 10:0010 0", true},
		{"10:012 10:000120 10:10 1", impl.StrokeRight, "10:012 10:000120 10:10 1", true}, // the Count has no more digits
		{"10:012 10:000120 10:10 0", impl.StrokeRight, "10:012 10:000120 10:10 1", false},
		{"10:012 10:120 10:1234 0", impl.StrokeRight, "10:012 10:120 10:1234 0", true},
		{"10:012 10:120 10:1234 0", impl.StrokeLeft, "10:012 10:120 10:1234 0", true},
		{"10:012 10:123456 10:7890 2", impl.StrokeClear, "10:012 10:000000 10:0000 2", false},
		{"10:012 10:000000 10:0000 2", impl.StrokeClear, "10:012 10:000000 10:0000 2", false},
		{"10:012 10:123456 10:7890 2", impl.StrokeZero, "10:000 10:123456 10:7890 2", false},
		{"10:000 10:123456 10:7890 2", impl.StrokeZero, "10:000 10:123456 10:7890 2", false},
		{"2:1 2:1 2:1 0", impl.StrokeAdd, "2:1 2:0 2:0 0", true},
		{"2:1 2:0 2:1 0", impl.StrokeAdd, "2:1 2:1 2:0 0", false},
		{"2:1 2:0 2:0 0", impl.StrokeSub, "2:1 2:1 2:1 0", true},
		{"2:1 2:1000000000000000 2:0000000000000000 15", impl.StrokeAdd, "2:1 2:0000000000000000 2:1000000000000000 15", true},
		{"2:1 2:0111111111111111 2:1000000000000000 15", impl.StrokeAdd, "2:1 2:1111111111111111 2:0000000000000000 15", false},
		{"16:ff 16:001 16:0 0", impl.StrokeAdd, "16:ff 16:100 16:1 0", false},
		{"16:ff 16:f01 16:f 0", impl.StrokeAdd, "16:ff 16:000 16:0 0", true},
		{"10:999999999999 10:999999999999 10:999999999999 0", impl.StrokeAdd, "10:999999999999 10:999999999998 10:000000000000 0", true},
		{"10:999999999999 10:000000000000 10:000000000000 0", impl.StrokeSub, "10:999999999999 10:000000000001 10:999999999999 0", true},
		{"10:9 10:999999999999 10:999999999999 11", impl.StrokeAdd, "10:9 10:899999999999 10:099999999999 11", true},
	} {
		what := fmt.Sprint(c.from, ": ", impl.StrokeName(c.kind))
		isResult(t, what, purely(t, impl.DoStroke, machine(t, c.from), c.kind), machine(t, c.want), c.bell, int64(impl.OK))
	}
}

func checkStroke(t *testing.T, m impl.Machine, kind int64) {
	t.Helper()
	want, rings := strokeDone(m, kind)
	got, bell, code := impl.DoStroke(m, kind)
	isResult(t, fmt.Sprint(m, impl.StrokeName(kind)), all(got, bell, code), want, rings, int64(impl.OK))
	if !impl.ValidMachine(got) {
		t.Errorf("%v: after %s, %v is not valid", m, impl.StrokeName(kind), got)
	}
}

func TestStrokesOnAllSmallMachines(t *testing.T) {
	for _, m := range smallMachines() {
		for _, kind := range strokes {
			checkStroke(t, m, kind)
		}
	}
}

func TestStrokesOnMachinesOfManyShapes(t *testing.T) {
	random := rand.New(rand.NewSource(102))
	for _, s := range someMachineShapes() {
		for _, place := range []int64{0, s.places() - 1, random.Int63n(s.places())} {
			for _, m := range s.machines(random, place) {
				checkStroke(t, m, impl.StrokeAdd)
				checkStroke(t, m, impl.StrokeSub)
			}
			m := s.with(big.NewInt(random.Int63()), big.NewInt(random.Int63()), big.NewInt(random.Int63()), place)
			for _, kind := range strokes {
				checkStroke(t, m, kind)
			}
		}
	}
}

func TestOtherStrokesAreRejected(t *testing.T) {
	none, outside := impl.Machine{}, int64(impl.ErrRange)
	for _, m := range []impl.Machine{machine(t, "10:012 10:000120 10:0010 1"), machine(t, "2:1 2:1 2:1 0"), machine(t, "16:ff 16:f01 16:f 0")} {
		for _, kind := range noStrokes {
			isResult(t, fmt.Sprint(kind), purely(t, impl.DoStroke, m, kind), none, false, outside)
			for _, list := range [][]int64{
				{kind}, {1, kind}, {kind, 1}, {1, 2, 3, kind, 4}, {kind, kind}, {4, 4, 4, kind}, // also behind a bell
				append(slices.Repeat([]int64{5}, 299), kind), append(slices.Repeat([]int64{5}, 300), kind), append([]int64{kind}, slices.Repeat([]int64{5}, 1000)...), // ErrRange comes before ErrFull
			} {
				isResult(t, fmt.Sprint(list), purely(t, impl.DoStrokes, m, list), none, int64(0), outside)
			}
		}
	}
}

func TestDoStrokes(t *testing.T) {
	const add, sub, right, left, clear, zero = impl.StrokeAdd, impl.StrokeSub, impl.StrokeRight, impl.StrokeLeft, impl.StrokeClear, impl.StrokeZero
	for _, c := range []struct {
		from string
		list []int64
		want string
		made int64
	}{
		{"10:012 10:000000 10:0000 0", []int64{add, add, right, add}, "10:012 10:000144 10:0012 1", 4},
		{"10:012 10:000120 10:0010 1", nil, "10:012 10:000120 10:0010 1", 0},
		{"10:012 10:000120 10:0010 1", []int64{}, "10:012 10:000120 10:0010 1", 0},
		{"10:012 10:000030 10:0000 0", []int64{sub, sub, sub, add, right}, "10:012 10:999994 10:9997 0", 3},
		{"10:012 10:000030 10:0000 0", []int64{sub, sub, sub}, "10:012 10:999994 10:9997 0", 3}, // at the last one
		{"10:012 10:000000 10:0000 0", []int64{sub, add, add}, "10:012 10:999988 10:9999 0", 1}, // at the first one
		{"10:012 10:000000 10:0000 0", []int64{left}, "10:012 10:000000 10:0000 0", 1},
		{"10:012 10:000000 10:0000 0", []int64{left, add}, "10:012 10:000000 10:0000 0", 1},
		{"10:012 10:000000 10:0000 0", []int64{right, right, right, right, add}, "10:012 10:000000 10:0000 3", 4},
		{"10:012 10:000000 10:00 0", []int64{right, right, add}, "10:012 10:000000 10:00 1", 2},
		{"10:012 10:000000 10:0000 0", []int64{right, add, left, sub, left, clear}, "10:012 10:000108 10:0009 0", 5},
		{"10:012 10:999999 10:9999 2", []int64{clear, zero, add, sub, add}, "10:000 10:000000 10:0100 2", 5}, // the Count goes through 0 in silence
		{"10:012 10:999999 10:9999 2", []int64{zero, add, clear}, "10:000 10:000000 10:0000 2", 3},
		{"10:012 10:999999 10:9999 2", []int64{zero, sub, add}, "10:000 10:999999 10:9999 2", 3},
		{"10:500 10:000000 10:0 0", slices.Repeat([]int64{add}, 300), "10:500 10:150000 10:0 0", 300},
		{"10:500 10:900000 10:0000 0", slices.Repeat([]int64{add}, 300), "10:500 10:000000 10:0200 0", 200},
		{"10:500 10:850000 10:0000 0", slices.Repeat([]int64{add}, 300), "10:500 10:000000 10:0300 0", 300},
		{"10:500 10:149999 10:000 0", slices.Repeat([]int64{sub}, 300), "10:500 10:999999 10:700 0", 300},
		{"10:500 10:149499 10:000 0", slices.Repeat([]int64{sub}, 300), "10:500 10:999999 10:701 0", 299},
		{"2:1 2:0 2:0 0", []int64{add, add, add}, "2:1 2:0 2:0 0", 2},
		{"2:1 2:00 2:00 0", []int64{add, right, add, left, add}, "2:1 2:00 2:00 0", 5},
		{"10:098 10:000000 10:0000 0", []int64{right, right, add, left, left, sub, sub}, "10:098 10:009604 10:0098 0", 7}, // 98 times 98
	} {
		isResult(t, fmt.Sprint(c.from, c.list), purely(t, impl.DoStrokes, machine(t, c.from), c.list), machine(t, c.want), c.made, int64(impl.OK))
	}
}

func TestTooManyStrokesAreRejected(t *testing.T) {
	m := machine(t, "10:012 10:000000 10:0000 0")
	for _, count := range []int{301, 302, 600, 100000} {
		for _, kind := range strokes { // also if the bell would stop them before
			isResult(t, fmt.Sprint(count), all(impl.DoStrokes(m, slices.Repeat([]int64{kind}, count))), impl.Machine{}, int64(0), int64(impl.ErrFull))
		}
	}
	for _, count := range []int{299, 300} {
		isResult(t, fmt.Sprint(count), all(impl.DoStrokes(m, slices.Repeat([]int64{impl.StrokeClear}, count))), m, int64(count), int64(impl.OK))
		isResult(t, fmt.Sprint(count), all(impl.DoStrokes(m, slices.Repeat([]int64{impl.StrokeLeft}, count))), m, int64(1), int64(impl.OK))
	}
}

// TestDoStrokesOfManyLists checks lists of strokes against strokes that are made one after the other.
func TestDoStrokesOfManyLists(t *testing.T) {
	random := rand.New(rand.NewSource(103))
	for _, s := range someMachineShapes() {
		machines := s.machines(random, random.Int63n(s.places()))
		for range 3 {
			m := machines[random.Intn(len(machines))]
			var list []int64
			for range random.Intn(30) {
				list = append(list, strokes[random.Intn(len(strokes))])
			}
			want, made := strokesDone(m, list)
			isResult(t, fmt.Sprint(m, list), all(impl.DoStrokes(m, list)), want, made, int64(impl.OK))
			for _, kind := range list[:made] {
				m, _, _ = impl.DoStroke(m, kind)
			}
			isResult(t, fmt.Sprint(m, list), all(m), want)
		}
	}
}

func TestStrokeBack(t *testing.T) {
	for kind, back := range map[int64]int64{impl.StrokeAdd: impl.StrokeSub, impl.StrokeSub: impl.StrokeAdd, impl.StrokeRight: impl.StrokeLeft, impl.StrokeLeft: impl.StrokeRight} {
		isResult(t, fmt.Sprint(kind), purely(t, impl.StrokeBack, kind), back, int64(impl.OK))
	}
	for _, kind := range []int64{impl.StrokeClear, impl.StrokeZero} {
		isResult(t, fmt.Sprint(kind), purely(t, impl.StrokeBack, kind), int64(0), int64(impl.ErrNotFound))
	}
	for _, kind := range noStrokes {
		isResult(t, fmt.Sprint(kind), purely(t, impl.StrokeBack, kind), int64(0), int64(impl.ErrRange))
	}
}

func TestPlacesOf(t *testing.T) {
	for text, want := range map[string]int64{
		"10:012 10:000120 10:0010 1": 4, "10:012 10:000120 10:00100 1": 4, "10:012 10:000120 10:010 1": 3, "10:012 10:000120 10:01 1": 2, "10:012 10:000120 10:1 0": 1, "10:012 10:120 10:0010 0": 1, "10:012 10:0120 10:0010 0": 2,
		"10:0 10:0 10:0 0": 1, "2:1 2:0000000000000000 2:0000000000000000 15": 16, "10:1 10:000000000000 10:000000000000 0": 12, "10:1 10:000000000000 10:00000000000 0": 11, "16:1 16:000000000 16:000000000 8": 9,
	} {
		isResult(t, text, purely(t, impl.PlacesOf, machine(t, text)), want, int64(impl.OK))
	}
}

func TestMachineText(t *testing.T) {
	for _, text := range []string{
		"10:012 10:000120 10:0010 1", "10:012 10:000000 10:0000 0", "2:1 2:0000000000000000 2:0000000000000000 15", "16:af 16:123456789 16:fedcba987 7", "10:1 10:000000000000 10:000000000000 11", "3:2 3:21 3:0 0",
	} {
		isResult(t, text, purely(t, impl.MachineText, machine(t, text)), text)
		isResult(t, text, purely(t, impl.ReadMachine, text), machine(t, text), true)
	}
	for _, m := range append(someMachines(), smallMachines()...) {
		text := fmt.Sprint(impl.RegisterText(m.Setting), " ", impl.RegisterText(m.Result), " ", impl.RegisterText(m.Count), " ", m.Place)
		isResult(t, text, all(impl.MachineText(m)), text)
		isResult(t, text, all(impl.ReadMachine(text)), m, true)
	}
}

var otherMachineTexts = []string{
	"", " ", "   ", "10:012", "10:012 10:000120", "10:012 10:000120 10:0010", "10:012 10:000120 10:0010 ", " 10:012 10:000120 10:0010", "10:012 10:000120 10:0010 1 ", " 10:012 10:000120 10:0010 1", "10:012 10:000120 10:0010 1 1",
	"10:012  10:000120 10:0010 1", "10:012 10:000120  10:0010 1", "10:012 10:000120 10:0010  1", "10:012 10:000120 10:0010 1\n", "10:012\t10:000120 10:0010 1", "10:012 10:000120\n10:0010 1", "10:012 10:000120 10:0010\u00a01",
	"10:012 10:000120 10:0010 4", "10:012 10:000120 10:0010 -1", "10:012 10:000120 10:0010 01", "10:012 10:000120 10:0010 +1", "10:012 10:000120 10:0010 -0", "10:012 10:000120 10:0010 x", "10:012 10:000120 10:0010 1.0", "10:012 10:000120 10:0010 999999999999999999",
	"10:012 10:000120 10:0010 9223372036854775808", "10:012 10:000120 10:0010 18446744073709551617", "10:012 10:000120 10:0010 10:1", "1 10:012 10:000120 10:0010", "10:012 10:000120 1 10:0010",
	"010:012 10:000120 10:0010 1", "10:0a2 10:000120 10:0010 1", "10:012 10:00012a 10:0010 1", "10:012 10:000120 10:001a 1", "10: 10:000120 10:0010 1", "10:012 10: 10:0010 0", "10:012 10:000120 10: 0", "x 10:000120 10:0010 1", "10:012 x 10:0010 1", "10:012 10:000120 x 1",
	"9:012 10:000120 10:0010 1", "10:012 9:000120 10:0010 1", "10:012 10:000120 9:0010 1", "16:0AF 16:000120 16:0010 1", "17:012 17:000120 17:0010 1", "1:0 1:0 1:0 0", "0:0 0:0 0:0 0",
	"10:0120000 10:000120 10:0010 0", "10:012 10:0000000000120 10:0010 1", "10:012 10:000120 10:0000000000010 1", "10:0000000000012 10:0000000000120 10:0010 0", "10:012 10:000120 10:10 2", "2:1 2:00000000000000000 2:0 0",
	"10:012,10:000120,10:0010,1", "10:012 10:000120 10:0010 1\x00", "10:012 10:000120 10:0010 ١", "10:012 10:000120 10:0010 1 " + strings.Repeat(" ", 5000), strings.Repeat("10:0 ", 4000) + "0", strings.Repeat("0", 40000),
}

func TestReadMachineOfOtherTexts(t *testing.T) {
	for _, s := range append(otherMachineTexts, oddTexts...) {
		isResult(t, s, all(impl.ReadMachine(s)), impl.Machine{}, false)
	}
}

func TestStrokeName(t *testing.T) {
	for kind, want := range map[int64]string{1: "add", 2: "sub", 3: "right", 4: "left", 5: "clear", 6: "zero"} {
		isResult(t, want, purely(t, impl.StrokeName, kind), want)
	}
	for _, kind := range noStrokes {
		isResult(t, fmt.Sprint(kind), purely(t, impl.StrokeName, kind), "")
	}
}

// checkUndone makes a stroke and the one that leads back. A stroke with which the carriage cannot move has changed nothing,
// so that there is nothing to undo; but one that makes the Result go through 0 is undone as others are.
func checkUndone(t *testing.T, m impl.Machine, kind int64) {
	t.Helper()
	back, code := impl.StrokeBack(kind)
	if code != impl.OK {
		t.Fatalf("%d has no way back", kind)
	}
	done, bell, code := impl.DoStroke(m, kind)
	if code != impl.OK {
		t.Fatalf("%v: %d", m, code)
	}
	if bell && (kind == impl.StrokeRight || kind == impl.StrokeLeft) {
		isResult(t, fmt.Sprint(m), all(done), m)
		return
	}
	undone, rings, code := impl.DoStroke(done, back)
	isResult(t, fmt.Sprint(m, impl.StrokeName(kind)), all(undone, rings, code), m, bell, int64(impl.OK))
}

func TestPromise10StrokesAreUndone(t *testing.T) {
	random := rand.New(rand.NewSource(104))
	machines := smallMachines()
	for _, s := range someMachineShapes() {
		machines = append(machines, s.machines(random, random.Int63n(s.places()))...)
	}
	for _, m := range machines {
		for _, kind := range strokes[:4] {
			checkUndone(t, m, kind)
		}
	}
}

// TestPromise10WholeListsAreUndone makes strokes without a bell, and then from the last one on those that lead back.
func TestPromise10WholeListsAreUndone(t *testing.T) {
	random := rand.New(rand.NewSource(105))
	for _, s := range someMachineShapes() {
		machines := s.machines(random, random.Int63n(s.places()))
		m := machines[random.Intn(len(machines))]
		var list, back []int64
		at := m
		for range 40 {
			kind := strokes[random.Intn(4)]
			if after, bell := strokeDone(at, kind); !bell {
				at = after
				list = append(list, kind)
				undo, _ := impl.StrokeBack(kind)
				back = append([]int64{undo}, back...)
			}
		}
		done, made, code := impl.DoStrokes(m, list)
		isResult(t, fmt.Sprint(m, list), all(done, made, code), at, int64(len(list)), int64(impl.OK))
		isResult(t, fmt.Sprint(m, list), all(impl.DoStrokes(done, back)), m, int64(len(list)), int64(impl.OK))
	}
}

// checkMultiple makes strokes, with bells or without, on a cleared machine: its Result must be the Setting times the turns,
// and its Count the turns, both modulo the number of their values.
func checkMultiple(t *testing.T, random *rand.Rand, s machineShape) {
	t.Helper()
	setting := new(big.Int).Rand(random, s.values(s.setting))
	m := s.with(setting, new(big.Int), new(big.Int), random.Int63n(s.places()))
	turns := new(big.Int)
	for range 30 {
		kind := strokes[random.Intn(4)]
		one := powerOf(s.base, m.Place)
		switch kind {
		case impl.StrokeAdd:
			turns.Add(turns, one)
		case impl.StrokeSub:
			turns.Sub(turns, one)
		}
		m, _, _ = impl.DoStroke(m, kind)
	}
	want := s.with(setting, new(big.Int).Mul(setting, turns), turns, m.Place)
	isResult(t, fmt.Sprint(s, setting, turns), all(m), want)
}

func TestPromise10TheResultIsAMultiple(t *testing.T) {
	random := rand.New(rand.NewSource(106))
	for _, s := range machineShapes() {
		if s.result%3 == 0 || s.result == int(widest[s.base]) || random.Intn(4) == 0 {
			checkMultiple(t, random, s)
		}
	}
}

// TestPromise10ProductsAreExact multiplies by the digits of a factor, without any bell.
func TestPromise10ProductsAreExact(t *testing.T) {
	for base := int64(2); base <= impl.MaxBase; base++ {
		m, code := impl.NewMachine(base, 3, 6, 3)
		if code != impl.OK {
			t.Fatal(base, code)
		}
		most := base*base*base - 1
		for _, pair := range [][2]int64{{most, most}, {most, 1}, {1, most}, {most / 2, most / 3}, {0, most}, {most, 0}} {
			set, _ := impl.SetValue(m, pair[0])
			var list []int64
			for k, factor := 0, pair[1]; k < 3; k++ {
				list = append(list, slices.Repeat([]int64{impl.StrokeAdd}, int(factor%base))...)
				if k < 2 {
					list = append(list, impl.StrokeRight)
				}
				factor /= base
			}
			got, made, code := impl.DoStrokes(set, list)
			want := machineShape{base, 3, 6, 3}.with(big.NewInt(pair[0]), big.NewInt(pair[0]*pair[1]), big.NewInt(pair[1]), 2)
			isResult(t, fmt.Sprint(base, pair), all(got, made, code), want, int64(len(list)), int64(impl.OK))
		}
	}
}

// TestExampleOfMachines is the example of the document.
func TestExampleOfMachines(t *testing.T) {
	m, _ := impl.ReadMachine("10:012 10:000000 10:0000 1")
	m, bell, code := impl.DoStroke(m, impl.StrokeAdd)
	isResult(t, "add", all(impl.MachineText(m), bell, code), "10:012 10:000120 10:0010 1", false, int64(impl.OK))
}
