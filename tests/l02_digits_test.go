package tests

import (
	"math"
	"math/big"
	"math/rand"
	"reflect"
	"slices"
	"strings"
	"testing"

	"loop.example/g00930/impl"
)

func reg(base int64, digits ...int64) impl.Register {
	return impl.Register{Base: base, Digits: digits}
}

// read returns the register with a text.
func read(t *testing.T, s string) impl.Register {
	t.Helper()
	r, ok := impl.ReadRegister(s)
	if !ok {
		t.Fatalf("%q is no register", s)
	}
	return r
}

// isResult compares results with those wanted.
func isResult(t *testing.T, what string, got []any, want ...any) {
	t.Helper()
	if !reflect.DeepEqual(got, want) {
		t.Errorf("%s: got %+v, want %+v", what, got, want)
	}
}

func all(values ...any) []any { return values }

// bigValue is the value of digits, computed without any limit.
func bigValue(r impl.Register) *big.Int {
	sum, weight := new(big.Int), big.NewInt(1)
	for _, d := range r.Digits {
		sum.Add(sum, new(big.Int).Mul(weight, big.NewInt(d)))
		weight = new(big.Int).Mul(weight, big.NewInt(r.Base))
	}
	return sum
}

// bigDigits returns the digits of value modulo the number of values of a width, and whether they are a register.
func bigDigits(base int64, width int, value *big.Int) (impl.Register, bool) {
	r := impl.Register{Base: base}
	count := new(big.Int).Exp(big.NewInt(base), big.NewInt(int64(width)), nil)
	rest := new(big.Int).Mod(value, count)
	ok := rest.Cmp(big.NewInt(impl.MaxValue)) <= 0
	for range width {
		digit := new(big.Int)
		rest.DivMod(rest, big.NewInt(base), digit)
		r.Digits = append(r.Digits, digit.Int64())
	}
	return r, ok
}

// validRegisters has registers of all bases and widths: the least, the greatest and some others.
func validRegisters() []impl.Register {
	random := rand.New(rand.NewSource(2))
	var list []impl.Register
	for base := int64(2); base <= impl.MaxBase; base++ {
		for width := 1; width <= impl.MaxWidth; width++ {
			greatest, ok := bigDigits(base, width, big.NewInt(-1))
			if !ok {
				greatest, _ = bigDigits(base, width, big.NewInt(impl.MaxValue))
			}
			most := bigValue(greatest).Int64()
			for _, value := range []int64{0, 1, most / 2, most - 1, most, random.Int63n(most + 1), random.Int63n(most + 1)} {
				r, _ := bigDigits(base, width, big.NewInt(value))
				list = append(list, r)
			}
		}
	}
	return list
}

func invalidRegisters() []impl.Register {
	wide := make([]int64, 17)
	full := slices.Repeat([]int64{15}, 16)
	wrapped := append(slices.Repeat([]int64{0}, 15), 8)
	return []impl.Register{
		{}, reg(10), {Base: 10, Digits: []int64{}}, reg(0, 0), reg(1, 0), reg(17, 0), reg(-10, 0), reg(math.MaxInt64, 0), reg(math.MinInt64, 0),
		reg(10, 10), reg(10, -1), reg(2, 2), reg(16, 16), reg(10, 0, 10), reg(10, 0, -1, 0), reg(10, math.MaxInt64), reg(10, math.MinInt64, 1),
		reg(10, wide...), reg(2, wide...), reg(16, full...), reg(16, wrapped...), reg(16, append(slices.Repeat([]int64{0}, 15), 1)...),
		reg(10, 1, 0, 0, 0, 0, 0, 0, 0, 0, 0, 0, 0, 1), reg(10, 0, 0, 0, 0, 0, 0, 0, 0, 0, 0, 0, 0, 0, 1), reg(10, -9, 1), reg(10, 11, -1),
	}
}

// someRegisters has few registers of several shapes, valid and invalid ones.
func someRegisters() []impl.Register {
	return append(invalidRegisters(), reg(10, 0), reg(10, 9), reg(10, 3, 7), reg(10, 9, 9), reg(2, 1, 0), reg(2, 1, 1, 1), reg(16, 15, 10, 0),
		reg(10, 0, 0, 0, 0, 0, 0, 0, 0, 0, 0, 0, 0, 1), reg(10, 1, 0, 0, 0, 0, 0, 0, 0, 0, 0, 0, 0, 0), reg(10, 9, 9, 9, 9, 9, 9, 9, 9, 9, 9, 9, 9))
}

func TestPromise1Registers(t *testing.T) {
	for _, a := range append(validRegisters(), invalidRegisters()...) {
		purely(t, impl.ValidRegister, a)
		purely(t, impl.ValueOf, a)
		purely(t, impl.ComplementOf, a)
		purely(t, impl.RegisterText, a)
		for _, by := range append([]int64{3, -3}, oddNumbers...) {
			purely(t, impl.ShiftRegister, a, by)
		}
	}
	for _, a := range someRegisters() {
		for _, b := range someRegisters() {
			purely(t, impl.SameRegister, a, b)
			purely(t, impl.AddRegisters, a, b)
			purely(t, impl.SubRegisters, a, b)
			purely(t, impl.CarriesOf, a, b)
			purely(t, impl.CompareRegisters, a, b)
		}
	}
	for _, base := range oddNumbers {
		for _, width := range oddNumbers {
			for _, value := range oddNumbers {
				purely(t, impl.NewRegister, base, width, value)
			}
		}
	}
	for _, s := range oddTexts {
		purely(t, impl.ReadRegister, s)
	}
}

func TestConstantsOfDigits(t *testing.T) {
	isResult(t, "limits", all(int64(impl.MaxBase), int64(impl.MaxWidth), int64(impl.MaxValue)), int64(16), int64(16), int64(1000000000000))
}

func TestValidRegister(t *testing.T) {
	for _, r := range validRegisters() {
		if !impl.ValidRegister(r) {
			t.Errorf("%+v is valid", r)
		}
	}
	for _, r := range invalidRegisters() {
		if impl.ValidRegister(r) {
			t.Errorf("%+v is not valid", r)
		}
	}
}

// TestGreatestRegister checks for each base that a value of MaxValue is valid, and one more is not.
func TestGreatestRegister(t *testing.T) {
	for base := int64(2); base <= impl.MaxBase; base++ {
		for width := 1; width <= impl.MaxWidth; width++ {
			for more := range int64(2) {
				value := big.NewInt(impl.MaxValue + more)
				r, _ := bigDigits(base, width, value)
				if bigValue(r).Cmp(value) != 0 {
					continue // the width is not enough
				}
				if got := impl.ValidRegister(r); got != (more == 0) {
					t.Errorf("ValidRegister(%+v) is %v", r, got)
				}
			}
		}
	}
}

func TestSameRegister(t *testing.T) {
	list := append(someRegisters(), reg(10, 0, 0), reg(9, 0), reg(-1, 5), reg(-1, 5, 6), reg(-1, 6, 5))
	for i, a := range list {
		for j, b := range list {
			want := a.Base == b.Base && slices.Equal(a.Digits, b.Digits)
			if got := impl.SameRegister(a, b); got != want {
				t.Errorf("SameRegister of %d %+v and %d %+v is %v", i, a, j, b, got)
			}
		}
	}
	if !impl.SameRegister(impl.Register{Base: 10}, impl.Register{Base: 10, Digits: []int64{}}) {
		t.Error("no digits and empty digits are the same")
	}
	if impl.SameRegister(reg(10, 1, 2), reg(10, 1, 3)) || impl.SameRegister(reg(10, 1), reg(11, 1)) || impl.SameRegister(reg(10, 1), reg(10, 1, 0)) {
		t.Error("different registers are the same")
	}
}

func TestNewRegister(t *testing.T) {
	for _, c := range []struct {
		base, width, value int64
		want               impl.Register
		code               int64
	}{
		{10, 4, 73, reg(10, 3, 7, 0, 0), impl.OK},
		{16, 3, 175, reg(16, 15, 10, 0), impl.OK},
		{2, 4, 6, reg(2, 0, 1, 1, 0), impl.OK},
		{10, 1, 0, reg(10, 0), impl.OK},
		{10, 1, 9, reg(10, 9), impl.OK},
		{2, 1, 1, reg(2, 1), impl.OK},
		{16, 16, 1, reg(16, 1, 0, 0, 0, 0, 0, 0, 0, 0, 0, 0, 0, 0, 0, 0, 0), impl.OK},
		{2, 16, 65535, reg(2, 1, 1, 1, 1, 1, 1, 1, 1, 1, 1, 1, 1, 1, 1, 1, 1), impl.OK},
		{10, 13, impl.MaxValue, reg(10, 0, 0, 0, 0, 0, 0, 0, 0, 0, 0, 0, 0, 1), impl.OK},
		{10, 1, 10, impl.Register{}, impl.ErrFull},
		{2, 16, 65536, impl.Register{}, impl.ErrFull},
		{10, 12, impl.MaxValue, impl.Register{}, impl.ErrFull},
		{1, 4, 0, impl.Register{}, impl.ErrRange},
		{0, 4, 0, impl.Register{}, impl.ErrRange},
		{17, 4, 0, impl.Register{}, impl.ErrRange},
		{-10, 4, 0, impl.Register{}, impl.ErrRange},
		{10, 0, 0, impl.Register{}, impl.ErrRange},
		{10, -1, 0, impl.Register{}, impl.ErrRange},
		{10, 17, 0, impl.Register{}, impl.ErrRange},
		{10, math.MaxInt64, 0, impl.Register{}, impl.ErrRange},
		{10, 1<<32 + 4, 0, impl.Register{}, impl.ErrRange},
		{10, 4, -1, impl.Register{}, impl.ErrRange},
		{10, 13, impl.MaxValue + 1, impl.Register{}, impl.ErrRange},
		{10, 1, impl.MaxValue + 1, impl.Register{}, impl.ErrRange},
		{2, 1, math.MaxInt64, impl.Register{}, impl.ErrRange},
		{10, 4, math.MinInt64, impl.Register{}, impl.ErrRange},
	} {
		r, code := impl.NewRegister(c.base, c.width, c.value)
		if !reflect.DeepEqual(r, c.want) || code != c.code {
			t.Errorf("NewRegister(%d, %d, %d) is %+v, %d", c.base, c.width, c.value, r, code)
		}
	}
}

func TestValueOfNewRegister(t *testing.T) {
	for _, want := range validRegisters() {
		value := bigValue(want).Int64()
		got, code := impl.ValueOf(want)
		isResult(t, impl.RegisterText(want), all(got, code), value, int64(impl.OK))
		r, code := impl.NewRegister(want.Base, int64(len(want.Digits)), value)
		isResult(t, impl.RegisterText(want), all(r, code), want, int64(impl.OK))
	}
}

func TestInvalidRegistersAreRejected(t *testing.T) {
	good := reg(10, 3, 7)
	for _, bad := range invalidRegisters() {
		isResult(t, "value", purely(t, impl.ValueOf, bad), int64(0), int64(impl.ErrInvalid))
		isResult(t, "complement", purely(t, impl.ComplementOf, bad), impl.Register{}, int64(impl.ErrInvalid))
		for _, by := range []int64{0, 1, 17, -17} { // ErrInvalid comes before ErrRange
			isResult(t, "shift", purely(t, impl.ShiftRegister, bad, by), impl.Register{}, int64(impl.ErrInvalid))
		}
		isResult(t, "text", purely(t, impl.RegisterText, bad), "")
		for _, pair := range [][2]impl.Register{{bad, bad}, {bad, good}, {good, bad}} { // and before ErrState
			isResult(t, "sum", purely(t, impl.AddRegisters, pair[0], pair[1]), impl.Register{}, int64(0), int64(impl.ErrInvalid))
			isResult(t, "difference", purely(t, impl.SubRegisters, pair[0], pair[1]), impl.Register{}, int64(0), int64(impl.ErrInvalid))
			isResult(t, "carries", purely(t, impl.CarriesOf, pair[0], pair[1]), []int64(nil), int64(impl.ErrInvalid))
			isResult(t, "order", purely(t, impl.CompareRegisters, pair[0], pair[1]), int64(0), int64(impl.ErrInvalid))
		}
	}
}

func TestDifferentShapesAreRejected(t *testing.T) {
	most := reg(10, 0, 0, 0, 0, 0, 0, 0, 0, 0, 0, 0, 0, 1)
	wide := reg(10, 1, 0, 0, 0, 0, 0, 0, 0, 0, 0, 0, 0, 0, 0)
	for _, pair := range [][2]impl.Register{
		{reg(10, 1), reg(10, 1, 0)}, {reg(10, 1, 0), reg(10, 1)}, {reg(10, 1), reg(9, 1)}, {reg(2, 1), reg(16, 1, 0)},
		{most, wide}, {wide, most}, // ErrState comes before ErrFull
	} {
		isResult(t, "sum", purely(t, impl.AddRegisters, pair[0], pair[1]), impl.Register{}, int64(0), int64(impl.ErrState))
		isResult(t, "difference", purely(t, impl.SubRegisters, pair[0], pair[1]), impl.Register{}, int64(0), int64(impl.ErrState))
		isResult(t, "carries", purely(t, impl.CarriesOf, pair[0], pair[1]), []int64(nil), int64(impl.ErrState))
		isResult(t, "order", purely(t, impl.CompareRegisters, pair[0], pair[1]), int64(0), int64(impl.ErrState))
	}
}

func TestAddRegisters(t *testing.T) {
	most := read(t, "10:1000000000000")
	for _, c := range []struct {
		a, b  impl.Register
		sum   impl.Register
		carry int64
		code  int64
	}{
		{reg(10, 7, 9), reg(10, 5, 0), reg(10, 2, 0), 1, impl.OK},
		{reg(10, 7, 4), reg(10, 5, 3), reg(10, 2, 8), 0, impl.OK},
		{reg(2, 1), reg(2, 1), reg(2, 0), 1, impl.OK},
		{reg(16, 15, 15), reg(16, 15, 15), reg(16, 14, 15), 1, impl.OK},
		{read(t, "10:0999999999999"), read(t, "10:0000000000001"), most, 0, impl.OK},
		{most, read(t, "10:0000000000000"), most, 0, impl.OK},
		{most, read(t, "10:0000000000001"), impl.Register{}, 0, impl.ErrFull},
		{most, most, impl.Register{}, 0, impl.ErrFull},
		{read(t, "10:999999999999"), read(t, "10:999999999999"), read(t, "10:999999999998"), 1, impl.OK},
	} {
		sum, carry, code := impl.AddRegisters(c.a, c.b)
		isResult(t, impl.RegisterText(c.a)+" + "+impl.RegisterText(c.b), all(sum, carry, code), c.sum, c.carry, c.code)
	}
}

func TestSubRegisters(t *testing.T) {
	most := read(t, "10:1000000000000")
	for _, c := range []struct {
		a, b   impl.Register
		rest   impl.Register
		borrow int64
		code   int64
	}{
		{reg(10, 2, 0), reg(10, 5, 0), reg(10, 7, 9), 1, impl.OK},
		{reg(10, 2, 5), reg(10, 5, 0), reg(10, 7, 4), 0, impl.OK},
		{reg(10, 5, 2), reg(10, 5, 2), reg(10, 0, 0), 0, impl.OK},
		{reg(2, 0), reg(2, 1), reg(2, 1), 1, impl.OK},
		{reg(10, 0, 0, 1), reg(10, 1, 0, 0), reg(10, 9, 9, 0), 0, impl.OK},
		{most, read(t, "10:0000000000001"), read(t, "10:0999999999999"), 0, impl.OK},
		{read(t, "10:000000000000"), read(t, "10:000000000001"), read(t, "10:999999999999"), 1, impl.OK},
		{read(t, "10:0000000000000"), read(t, "10:0000000000001"), impl.Register{}, 0, impl.ErrFull},
		{read(t, "10:0999999999999"), most, impl.Register{}, 0, impl.ErrFull},
	} {
		rest, borrow, code := impl.SubRegisters(c.a, c.b)
		isResult(t, impl.RegisterText(c.a)+" - "+impl.RegisterText(c.b), all(rest, borrow, code), c.rest, c.borrow, c.code)
	}
}

// checkPair compares what two registers of one shape give with the exact arithmetic of their values.
func checkPair(t *testing.T, a, b impl.Register) {
	t.Helper()
	what := impl.RegisterText(a) + " and " + impl.RegisterText(b)
	width := len(a.Digits)
	count := new(big.Int).Exp(big.NewInt(a.Base), big.NewInt(int64(width)), nil)
	left, right := bigValue(a), bigValue(b)

	total := new(big.Int).Add(left, right)
	want, ok := bigDigits(a.Base, width, total)
	sum, carry, code := impl.AddRegisters(a, b)
	if ok {
		isResult(t, "sum of "+what, all(sum, carry, code), want, new(big.Int).Div(total, count).Int64(), int64(impl.OK))
	} else {
		isResult(t, "sum of "+what, all(sum, carry, code), impl.Register{}, int64(0), int64(impl.ErrFull))
	}

	want, ok = bigDigits(a.Base, width, new(big.Int).Sub(left, right))
	rest, borrow, code := impl.SubRegisters(a, b)
	if ok {
		isResult(t, "difference of "+what, all(rest, borrow, code), want, max(0, int64(right.Cmp(left))), int64(impl.OK))
		back, _, code := impl.AddRegisters(rest, b)
		isResult(t, "difference and sum of "+what, all(back, code), a, int64(impl.OK))
	} else {
		isResult(t, "difference of "+what, all(rest, borrow, code), impl.Register{}, int64(0), int64(impl.ErrFull))
	}

	order, code := impl.CompareRegisters(a, b)
	isResult(t, "order of "+what, all(order, code), int64(left.Cmp(right)), int64(impl.OK))

	var carries []int64
	weight := big.NewInt(1)
	for range width + 1 {
		low := new(big.Int).Add(new(big.Int).Mod(left, weight), new(big.Int).Mod(right, weight))
		carries = append(carries, low.Div(low, weight).Int64())
		weight = new(big.Int).Mul(weight, big.NewInt(a.Base))
	}
	got, code := impl.CarriesOf(a, b)
	isResult(t, "carries of "+what, all(got, code), carries, int64(impl.OK))
}

func TestPromise2AllSmallRegisters(t *testing.T) {
	for base := int64(2); base <= 4; base++ {
		for width := 1; width <= 3; width++ {
			count := int64(math.Pow(float64(base), float64(width)))
			for x := range count {
				for y := range count {
					a, _ := bigDigits(base, width, big.NewInt(x))
					b, _ := bigDigits(base, width, big.NewInt(y))
					checkPair(t, a, b)
				}
			}
		}
	}
}

func TestPromise2AllShapes(t *testing.T) {
	list := validRegisters()
	for _, a := range list {
		for _, b := range list {
			if a.Base == b.Base && len(a.Digits) == len(b.Digits) {
				checkPair(t, a, b)
			}
		}
	}
}

func TestComplementOf(t *testing.T) {
	r, code := impl.ComplementOf(read(t, "10:0073"))
	isResult(t, "complement", all(impl.RegisterText(r), code), "10:9926", int64(impl.OK))
	r, code = impl.ComplementOf(read(t, "10:000000000000"))
	isResult(t, "greatest complement", all(impl.RegisterText(r), code), "10:999999999999", int64(impl.OK))
	r, code = impl.ComplementOf(read(t, "10:0000000000000"))
	isResult(t, "too great a complement", all(r, code), impl.Register{}, int64(impl.ErrFull))
	for _, r := range validRegisters() {
		lack := new(big.Int).Sub(big.NewInt(-1), bigValue(r))
		want, ok := bigDigits(r.Base, len(r.Digits), lack)
		got, code := impl.ComplementOf(r)
		if ok {
			isResult(t, impl.RegisterText(r), all(got, code), want, int64(impl.OK))
		} else {
			isResult(t, impl.RegisterText(r), all(got, code), impl.Register{}, int64(impl.ErrFull))
		}
	}
}

func TestCarriesOf(t *testing.T) {
	carries, code := impl.CarriesOf(reg(10, 7, 9), reg(10, 5, 0))
	isResult(t, "carries", all(carries, code), []int64{0, 1, 1}, int64(impl.OK))
	carries, code = impl.CarriesOf(reg(10, 7, 1), reg(10, 5, 0))
	isResult(t, "one carry", all(carries, code), []int64{0, 1, 0}, int64(impl.OK))
	most := read(t, "10:1000000000000")
	carries, code = impl.CarriesOf(most, most) // the sum is not valid, but the carries are told
	isResult(t, "carries of a great sum", all(carries, code), make([]int64, 14), int64(impl.OK))
}

func TestShiftRegister(t *testing.T) {
	for _, c := range []struct {
		from string
		by   int64
		to   string
		code int64
	}{
		{"10:0073", 0, "10:0073", impl.OK},
		{"10:0073", 1, "10:0730", impl.OK},
		{"10:0073", 3, "10:3000", impl.OK},
		{"10:0073", 4, "10:0000", impl.OK},
		{"10:0073", 16, "10:0000", impl.OK},
		{"10:0073", -1, "10:0007", impl.OK},
		{"10:1234", -2, "10:0012", impl.OK},
		{"10:1234", -4, "10:0000", impl.OK},
		{"10:1234", -16, "10:0000", impl.OK},
		{"2:1111111111111111", 15, "2:1000000000000000", impl.OK},
		{"2:1111111111111111", -15, "2:0000000000000001", impl.OK},
		{"10:0073", 17, "", impl.ErrRange},
		{"10:0073", -17, "", impl.ErrRange},
		{"10:0073", math.MaxInt64, "", impl.ErrRange},
		{"10:0073", math.MinInt64, "", impl.ErrRange},
		{"10:0073", 1 << 32, "", impl.ErrRange},
		{"10:0000000000001", 12, "10:1000000000000", impl.OK},
		{"10:0000000000002", 12, "", impl.ErrFull},
		{"10:00000000000001", 13, "", impl.ErrFull},
		{"10:00000000000001", 14, "10:00000000000000", impl.OK},
	} {
		r, code := impl.ShiftRegister(read(t, c.from), c.by)
		isResult(t, c.from, all(impl.RegisterText(r), code), c.to, c.code)
		if code != impl.OK && !reflect.DeepEqual(r, impl.Register{}) {
			t.Errorf("%s: %+v together with an error", c.from, r)
		}
	}
}

func TestCompareRegisters(t *testing.T) {
	for _, c := range []struct {
		a, b string
		want int64
	}{
		{"10:02", "10:05", -1}, {"10:05", "10:05", 0}, {"10:05", "10:02", 1}, {"10:19", "10:20", -1}, {"10:20", "10:19", 1},
		{"10:1000000000000", "10:0999999999999", 1}, {"16:0f", "16:10", -1},
	} {
		got, code := impl.CompareRegisters(read(t, c.a), read(t, c.b))
		isResult(t, c.a+" and "+c.b, all(got, code), c.want, int64(impl.OK))
	}
}

func TestRegisterText(t *testing.T) {
	for want, r := range map[string]impl.Register{
		"10:0073":             reg(10, 3, 7, 0, 0),
		"16:0af":              reg(16, 15, 10, 0),
		"2:1":                 reg(2, 1),
		"16:09abcdef":         reg(16, 15, 14, 13, 12, 11, 10, 9, 0),
		"11:a0":               reg(11, 0, 10),
		"10:1234567890":       reg(10, 0, 9, 8, 7, 6, 5, 4, 3, 2, 1),
		"3:0000000000000000":  reg(3, 0, 0, 0, 0, 0, 0, 0, 0, 0, 0, 0, 0, 0, 0, 0, 0),
		"16:000000e8d4a51000": reg(16, 0, 0, 0, 1, 5, 10, 4, 13, 8, 14, 0, 0, 0, 0, 0, 0),
	} {
		if got := impl.RegisterText(r); got != want {
			t.Errorf("RegisterText(%+v) is %q", r, got)
		}
		back, ok := impl.ReadRegister(want)
		isResult(t, want, all(back, ok), r, true)
	}
	for _, r := range validRegisters() {
		back, ok := impl.ReadRegister(impl.RegisterText(r))
		isResult(t, impl.RegisterText(r), all(back, ok), r, true)
	}
}

func TestReadRegisterOfOtherTexts(t *testing.T) {
	for _, s := range []string{
		"", ":", "10", "10:", ":1", "::", "10::1", "10:1:", "10:1:1", " 10:1", "10 :1", "10: 1", "10:1 ", "10:1\n", "10;1",
		"010:1", "+10:1", "-10:1", "a:1", "1:0", "0:0", "17:1", "100:1", "10:-1", "10:+1", "10:a", "2:2", "15:f", "16:g", "16:F", "16:A",
		"10:/", "16:`", "10:é", "10:٣", "10:1\xff", "10:\x00", "10:" + strings.Repeat("0", 17), "16:" + strings.Repeat("f", 16),
		"10:1000000000001", "16:e8d4a51001", "16:8000000000000000", "99999999999999999999:1", "10:1.0", "ten:1",
		"10:" + strings.Repeat("0", 100000),
	} {
		r, ok := impl.ReadRegister(s)
		isResult(t, s, all(r, ok), impl.Register{}, false)
	}
}
