package tests

import (
	"fmt"
	"math"
	"math/big"
	"math/rand"
	"slices"
	"strings"
	"testing"

	"loop.example/g00930/impl"
)

var faultWords = map[int64]string{impl.LeverMissing: "missing", impl.LeverStuck: "stuck", impl.LeverLate: "late"}

func fault(kind, lever int64) impl.LeverFault { return impl.LeverFault{Kind: kind, Lever: lever} }

// faults returns the faults of a text such as "late 1, stuck 2".
func faults(t *testing.T, text string) []impl.LeverFault {
	t.Helper()
	var list []impl.LeverFault
	for _, part := range strings.Split(text, ", ") {
		if text == "" {
			break
		}
		var word string
		var lever, kind int64
		if n, _ := fmt.Sscan(part, &word, &lever); n != 2 {
			t.Fatalf("%q is no fault", part)
		}
		for k, w := range faultWords {
			if w == word {
				kind = k
			}
		}
		list = append(list, fault(kind, lever))
	}
	return list
}

// allFaults returns all valid lists of faults for a width.
func allFaults(width int) [][]impl.LeverFault {
	lists := [][]impl.LeverFault{nil}
	for lever := range int64(width) {
		for _, list := range lists {
			for kind := range faultWords {
				lists = append(lists, append(slices.Clone(list), fault(kind, lever)))
			}
		}
	}
	return lists
}

// randomFaults returns a valid list for a width.
func randomFaults(random *rand.Rand, width int) []impl.LeverFault {
	var list []impl.LeverFault
	often := 1 + random.Intn(5)
	for lever := range int64(width) {
		if random.Intn(often) == 0 {
			list = append(list, fault(1+random.Int63n(3), lever))
		}
	}
	return list
}

// faultySum turns all wheels, pushes one lever after the other, and leaves to each fault what its lever does.
func faultySum(a, b impl.Register, list []impl.LeverFault) (impl.Register, int64) {
	r := reg(a.Base)
	var cocked []bool // in the first phase
	for k, d := range a.Digits {
		r.Digits = append(r.Digits, (d+b.Digits[k])%a.Base)
		cocked = append(cocked, d+b.Digits[k] >= a.Base)
	}
	carries := false
	for k := range r.Digits {
		byPush := false
		if carries {
			r.Digits[k]++
			byPush = r.Digits[k] == a.Base
			r.Digits[k] %= a.Base
		}
		carries = cocked[k] || byPush
		for _, f := range list {
			switch {
			case f == fault(impl.LeverMissing, int64(k)):
				carries = false
			case f == fault(impl.LeverStuck, int64(k)):
				carries = true
			case f == fault(impl.LeverLate, int64(k)):
				carries = cocked[k]
			}
		}
	}
	if carries {
		return r, 1
	}
	return r, 0
}

// isSmall reports whether the value of digits is at most MaxValue.
func isSmall(r impl.Register) bool { return bigValue(r).Cmp(big.NewInt(impl.MaxValue)) <= 0 }

// smallOr returns a register, a carry and OK; zero values and ErrFull if the value of the register is too great.
func smallOr(r impl.Register, carry int64) []any {
	if !isSmall(r) {
		return all(impl.Register{}, int64(0), int64(impl.ErrFull))
	}
	return all(r, carry, int64(impl.OK))
}

// oddFaults are lists of faults that are valid for some width or for none.
func oddFaults() [][]impl.LeverFault {
	lists := [][]impl.LeverFault{nil, {}, {{}}, {fault(1, 0), fault(2, 0)}, {fault(1, 1), fault(2, 0)}, {fault(3, 0), fault(1, 1)}, make([]impl.LeverFault, 100)}
	for _, n := range []int64{0, 1, 2, 3, 4, 15, 16, 17, -1, math.MaxInt64, math.MinInt64} {
		lists = append(lists, []impl.LeverFault{fault(n, 0)}, []impl.LeverFault{fault(1, n)}, []impl.LeverFault{fault(3, n)},
			[]impl.LeverFault{fault(2, 0), fault(3, n)}, []impl.LeverFault{fault(2, n), fault(3, 1)})
	}
	return lists
}

// rightRows returns the right table of a base, by the number of each row.
func rightRows(base int64) []impl.AddRow {
	var list []impl.AddRow
	for n := range 2 * base * base {
		row := impl.AddRow{In: n / base / base, A: n / base % base, B: n % base}
		row.Digit = row.In + row.A + row.B
		if row.Digit >= base {
			row.Digit -= base
			row.Carry = 1
		}
		list = append(list, row)
	}
	return list
}

// withRow returns rows of which one is another.
func withRow(list []impl.AddRow, k int, row impl.AddRow) []impl.AddRow {
	list = slices.Clone(list)
	list[k] = row
	return list
}

// wrongRows returns rows with the same carry and digits in, but another digit or carry than a row of a base has.
func wrongRows(base int64, row impl.AddRow) []impl.AddRow {
	var list []impl.AddRow
	for digit := range base {
		for carry := range int64(2) {
			wrong := impl.AddRow{In: row.In, A: row.A, B: row.B, Digit: digit, Carry: carry}
			if wrong != row {
				list = append(list, wrong)
			}
		}
	}
	return list
}

// randomTable returns a table of a base in which some of the rows are wrong.
func randomTable(random *rand.Rand, base int64) []impl.AddRow {
	list := rightRows(base)
	often := 1 + random.Intn(len(list))
	from := random.Intn(2) * len(list) / 2 // often only those with a carry into them
	for k := from; k < len(list); k++ {
		if random.Intn(often) == 0 {
			list[k].Digit = random.Int63n(base)
			list[k].Carry = random.Int63n(2)
		}
	}
	return list
}

// noTables are lists that are not a table of the base 3, each with one thing that is not as it should be.
func noTables() [][]impl.AddRow {
	right := rightRows(3)
	lists := [][]impl.AddRow{nil, {}, right[:1], right[:17], right[1:], right[:9], append(rightRows(3), impl.AddRow{}), append(rightRows(3), rightRows(3)...),
		append(rightRows(3), right[17]), rightRows(2), rightRows(4), slices.Concat(right[9:], right[:9])}
	for _, k := range []int{0, 1, 8, 9, 17} {
		swapped := rightRows(3)
		swapped[k], swapped[(k+1)%18] = swapped[(k+1)%18], swapped[k]
		lists = append(lists, swapped)
		for _, n := range []int64{-1, 2, 3, 17, 1 << 32, math.MaxInt64, math.MinInt64} {
			row := right[k]
			in, a, b, digit, carry := row, row, row, row, row
			in.In, a.A, b.B, digit.Digit, carry.Carry = row.In+n, row.A+n, row.B+n, n, n
			lists = append(lists, withRow(right, k, in), withRow(right, k, a), withRow(right, k, b), withRow(right, k, carry))
			if n != 2 { // a digit of the base 3
				lists = append(lists, withRow(right, k, digit))
			}
		}
	}
	return lists
}

func TestPromise1Faults(t *testing.T) {
	for _, list := range oddFaults() {
		for _, width := range oddNumbers {
			purely(t, impl.ValidFaults, width, list)
		}
	}
	for i, a := range someRegisters() {
		for j, b := range someRegisters() {
			for k, list := range oddFaults() {
				if (i+j+k)%7 == 0 || i == j {
					purely(t, impl.AddWithFaults, a, b, list)
					purely(t, impl.ShowsFaults, a, b, list)
				}
			}
		}
	}
	for _, base := range []int64{-1, 0, 1, 2, 10, 16, 17, math.MaxInt64, math.MinInt64} {
		for _, width := range []int64{-1, 0, 1, 2, 12, 13, 16, 17, math.MaxInt64, math.MinInt64} {
			for _, kind := range []int64{-1, 0, 1, 2, 3, 4, math.MaxInt64, math.MinInt64} {
				for _, lever := range []int64{-1, 0, 1, 11, 12, 15, 16, math.MaxInt64, math.MinInt64} {
					purely(t, impl.WitnessOf, base, width, fault(kind, lever))
				}
			}
		}
	}
	for _, kind := range oddNumbers {
		for _, lever := range oddNumbers {
			purely(t, impl.FaultText, fault(kind, lever))
		}
	}
	for _, s := range slices.Concat(oddTexts, oddFaultTexts) {
		purely(t, impl.ReadFault, s)
	}
}

func TestPromise1Tables(t *testing.T) {
	for _, base := range oddNumbers {
		purely(t, impl.RightTable, base)
		for _, list := range [][]impl.AddRow{nil, {}, {{}}, rightRows(2), rightRows(10), make([]impl.AddRow, 512)} {
			purely(t, impl.TableFault, base, list)
			purely(t, impl.TableWitness, base, list)
		}
	}
	for _, list := range noTables() {
		purely(t, impl.TableFault, int64(3), list)
		purely(t, impl.TableWitness, int64(3), list)
		purely(t, impl.AddByTable, list, reg(3, 1, 2), reg(3, 2, 2))
	}
	random := rand.New(rand.NewSource(81))
	for i, a := range someRegisters() {
		for j, b := range someRegisters() {
			purely(t, impl.AddByTable, rightRows(2), a, b)
			if i == j {
				for _, list := range [][]impl.AddRow{nil, {{}}, rightRows(10), rightRows(16), randomTable(random, 10)} {
					purely(t, impl.AddByTable, list, a, b)
				}
			}
		}
	}
	for base := int64(2); base <= 16; base++ {
		list := randomTable(random, base)
		purely(t, impl.TableFault, base, list)
		purely(t, impl.TableWitness, base, list)
		a, b := randomDigits(random, base, 3), randomDigits(random, base, 3)
		purely(t, impl.AddByTable, list, a, b)
		purely(t, impl.AddWithFaults, a, b, randomFaults(random, 3))
	}
}

func TestConstantsOfFaults(t *testing.T) {
	isResult(t, "kinds", all(impl.LeverMissing, impl.LeverStuck, impl.LeverLate), 1, 2, 3)
}

func TestValidFaults(t *testing.T) {
	for _, c := range []struct {
		width int64
		list  []impl.LeverFault
		want  bool
	}{
		{1, nil, true}, {16, nil, true}, {0, nil, false}, {17, nil, false}, {-1, []impl.LeverFault{}, false}, {1, []impl.LeverFault{}, true},
		{1, faults(t, "missing 0"), true}, {1, faults(t, "stuck 0"), true}, {1, faults(t, "late 0"), true}, {1, faults(t, "late 1"), false},
		{2, faults(t, "late 1"), true}, {2, faults(t, "late 2"), false}, {2, faults(t, "missing -1"), false},
		{16, faults(t, "stuck 15"), true}, {16, faults(t, "stuck 16"), false}, {17, faults(t, "stuck 16"), false}, {17, faults(t, "stuck 0"), false}, {0, faults(t, "stuck 0"), false},
		{3, faults(t, "late 0, late 1, late 2"), true}, {3, faults(t, "late 0, missing 2"), true}, {3, faults(t, "late 0, stuck 2, missing 1"), false},
		{3, faults(t, "missing 1, stuck 1"), false}, {3, faults(t, "stuck 1, stuck 1"), false}, {3, faults(t, "late 1, late 0"), false}, {3, faults(t, "late 0, late 0, late 1"), false},
		{math.MaxInt64, nil, false}, {math.MinInt64, nil, false}, {1<<32 + 4, faults(t, "late 1"), false},
		{4, []impl.LeverFault{fault(0, 1)}, false}, {4, []impl.LeverFault{fault(4, 1)}, false}, {4, []impl.LeverFault{fault(-1, 1)}, false}, {4, []impl.LeverFault{{}}, false},
		{4, []impl.LeverFault{fault(math.MaxInt64, 1)}, false}, {4, []impl.LeverFault{fault(math.MinInt64, 1)}, false}, {4, []impl.LeverFault{fault(1<<32+1, 1)}, false},
		{4, []impl.LeverFault{fault(1, math.MaxInt64)}, false}, {4, []impl.LeverFault{fault(1, math.MinInt64)}, false}, {4, []impl.LeverFault{fault(1, 1<<32)}, false},
		{4, []impl.LeverFault{fault(1, 0), fault(1, 2), fault(0, 3)}, false}, {4, []impl.LeverFault{fault(0, 0), fault(1, 2), fault(1, 3)}, false},
	} {
		isResult(t, fmt.Sprint(c.width, c.list), purely(t, impl.ValidFaults, c.width, c.list), c.want)
	}
}

// TestValidFaultsOfAllShortLists tries all lists of up to three elements around the limits.
func TestValidFaultsOfAllShortLists(t *testing.T) {
	lists := [][]impl.LeverFault{nil}
	for length := 0; length < len(lists) && len(lists[length]) < 3; length++ {
		for kind := int64(0); kind <= 4; kind++ {
			for lever := int64(-1); lever <= 3; lever++ {
				lists = append(lists, append(slices.Clone(lists[length]), fault(kind, lever)))
			}
		}
	}
	for _, list := range lists {
		for width := int64(-1); width <= 5; width++ {
			want := width >= 1
			for i, f := range list {
				want = want && f.Kind >= 1 && f.Kind <= 3 && f.Lever >= 0 && f.Lever < width && (i == 0 || list[i-1].Lever < f.Lever)
			}
			if got := impl.ValidFaults(width, list); got != want {
				t.Fatalf("ValidFaults(%d, %v) is %v", width, list, got)
			}
		}
	}
}

// TestAllLeversMayHaveFaults has as many faults as there are levers, and one more.
func TestAllLeversMayHaveFaults(t *testing.T) {
	var list []impl.LeverFault
	for lever := range int64(20) {
		list = append(list, fault(1+lever%3, lever))
		for width := int64(-1); width <= 20; width++ {
			isResult(t, "all levers", all(impl.ValidFaults(width, list)), width > lever && width <= 16)
		}
	}
}

func TestInvalidRegistersWithFaultsAreRejected(t *testing.T) {
	invalid, none := int64(impl.ErrInvalid), impl.Register{}
	for _, bad := range invalidRegisters() {
		for _, good := range []impl.Register{bad, reg(10, 3, 7), reg(10, 3), reg(2, 1)} { // ErrInvalid comes before ErrState
			for _, pair := range [][2]impl.Register{{bad, good}, {good, bad}} {
				for _, list := range [][]impl.LeverFault{nil, faults(t, "missing 0"), faults(t, "missing 16"), {{}}} { // and before ErrFormat
					isResult(t, "sum", purely(t, impl.AddWithFaults, pair[0], pair[1], list), none, int64(0), invalid)
					isResult(t, "shown", purely(t, impl.ShowsFaults, pair[0], pair[1], list), false)
				}
				for _, list := range [][]impl.AddRow{nil, rightRows(2), rightRows(10), {{}}} {
					isResult(t, "sum by a table", purely(t, impl.AddByTable, list, pair[0], pair[1]), none, int64(0), invalid)
				}
			}
		}
	}
}

func TestDifferentShapesWithFaultsAreRejected(t *testing.T) {
	state, none := int64(impl.ErrState), impl.Register{}
	most := reg(10, 0, 0, 0, 0, 0, 0, 0, 0, 0, 0, 0, 0, 1)
	wide := reg(10, 1, 0, 0, 0, 0, 0, 0, 0, 0, 0, 0, 0, 0, 0)
	for _, pair := range [][2]impl.Register{
		{reg(10, 1), reg(10, 1, 0)}, {reg(10, 1, 0), reg(10, 1)}, {reg(10, 1), reg(9, 1)}, {reg(2, 1), reg(16, 1)}, {reg(2, 1), reg(16, 1, 0)},
		{most, wide}, {wide, most}, // ErrState comes before ErrFull
	} {
		for _, list := range [][]impl.LeverFault{nil, faults(t, "stuck 0"), faults(t, "stuck 1"), faults(t, "stuck 16"), {{}}} { // and before ErrFormat
			isResult(t, "sum", purely(t, impl.AddWithFaults, pair[0], pair[1], list), none, int64(0), state)
			isResult(t, "shown", purely(t, impl.ShowsFaults, pair[0], pair[1], list), false)
		}
		for _, list := range [][]impl.AddRow{nil, rightRows(2), rightRows(10), {{}}} {
			isResult(t, "sum by a table", purely(t, impl.AddByTable, list, pair[0], pair[1]), none, int64(0), state)
		}
	}
}

func TestOtherFaultsAreRejected(t *testing.T) {
	most := reg(10, 0, 0, 0, 0, 0, 0, 0, 0, 0, 0, 0, 0, 1)
	for _, list := range oddFaults() {
		for _, r := range []impl.Register{reg(10, 9), reg(2, 1, 1), reg(16, 1, 2, 3, 4, 5, 6, 7, 8, 0, 0, 0, 0, 0, 0, 0, 0), most} {
			if !impl.ValidFaults(int64(len(r.Digits)), list) { // ErrFormat comes before ErrFull, which the sum of most alone would have
				isResult(t, fmt.Sprint(list), purely(t, impl.AddWithFaults, r, r, list), impl.Register{}, int64(0), int64(impl.ErrFormat))
				isResult(t, fmt.Sprint(list), purely(t, impl.ShowsFaults, r, r, list), false)
			}
		}
	}
}

func TestAddWithFaults(t *testing.T) {
	for _, c := range []struct {
		a, b, faults, sum string // no sum for ErrFull
		carry             int64
		shown             bool
	}{
		{"10:99", "10:01", "", "10:00", 1, false},
		{"10:99", "10:01", "late 1", "10:00", 0, true}, // cocked by the push of lever 0
		{"10:99", "10:01", "late 0", "10:00", 1, false},
		{"10:99", "10:01", "missing 0", "10:90", 0, true},
		{"10:99", "10:01", "missing 1", "10:00", 0, true},
		{"10:99", "10:01", "stuck 0", "10:00", 1, false},
		{"10:99", "10:01", "stuck 1", "10:00", 1, false},
		{"10:99", "10:11", "late 1", "10:10", 1, false}, // cocked in the first phase, and pushed as well
		{"10:59", "10:51", "late 1", "10:10", 1, false},
		{"10:49", "10:51", "late 1", "10:00", 0, true}, // 4 and 5 reach 10 only with the push
		{"10:49", "10:51", "late 0", "10:00", 1, false},
		{"10:00", "10:00", "stuck 0", "10:10", 0, true},
		{"10:00", "10:00", "stuck 1", "10:00", 1, true},
		{"10:00", "10:00", "missing 0, missing 1", "10:00", 0, false},
		{"10:90", "10:00", "stuck 0, late 1", "10:00", 0, true}, // a late lever is late for the push of a stuck one, too
		{"10:90", "10:00", "stuck 0", "10:00", 1, true},
		{"10:9", "10:1", "missing 0", "10:0", 0, true},
		{"10:9", "10:1", "late 0", "10:0", 1, false},
		{"10:0", "10:0", "stuck 0", "10:0", 1, true},
		{"2:111", "2:001", "late 1", "2:100", 0, true},
		{"2:111", "2:001", "late 2", "2:000", 0, true},
		{"2:111", "2:001", "late 1, late 2", "2:100", 0, true},
		{"2:111", "2:001", "late 1, stuck 2", "2:100", 1, true},
		{"2:111", "2:011", "late 1", "2:010", 1, false}, // what lever 1 pushes cocks lever 2 as usual
		{"16:fff", "16:001", "late 1", "16:f00", 0, true},
		{"16:fff", "16:fff", "late 0, late 1, late 2", "16:ffe", 1, false},
		{"10:0999999999999", "10:0000000000001", "", "10:1000000000000", 0, false}, // the greatest value
		{"10:0999999999999", "10:0000000000001", "late 11", "10:0000000000000", 0, true},
		{"10:0999999999999", "10:0000000000002", "", "", 0, false},
		{"10:0999999999999", "10:0000000000002", "missing 0", "10:0999999999991", 0, false}, // the right sum is too great
		{"10:0000000000000", "10:0000000000000", "stuck 11", "10:1000000000000", 0, true},
		{"10:0000000000001", "10:0000000000000", "stuck 11", "", 0, false}, // the wrong sum is too great
		{"10:00000000000000", "10:00000000000000", "stuck 12", "", 0, false},
		{"10:00000000000000", "10:00000000000000", "stuck 13", "10:00000000000000", 1, true},
	} {
		a, b, list := read(t, c.a), read(t, c.b), faults(t, c.faults)
		what := c.a + " + " + c.b + ": " + c.faults
		purely(t, impl.AddWithFaults, a, b, list)
		isResult(t, what, sumText(impl.AddWithFaults(a, b, list)), resultOf(c.sum, c.sum, c.carry)...)
		isResult(t, what, purely(t, impl.ShowsFaults, a, b, list), c.shown)
	}
}

// checkFaults checks an addition with faults against one in two phases.
func checkFaults(t *testing.T, a, b impl.Register, list []impl.LeverFault) {
	t.Helper()
	wrong, wrongCarry := faultySum(a, b, list)
	right, rightCarry := faultySum(a, b, nil)
	got, carry, code := impl.AddWithFaults(a, b, list)
	what := fmt.Sprint(a, " + ", b, ": ", list)
	isResult(t, what, all(got, carry, code), smallOr(wrong, wrongCarry)...)
	differ := wrongCarry != rightCarry || !slices.Equal(wrong.Digits, right.Digits)
	isResult(t, what, all(impl.ShowsFaults(a, b, list)), isSmall(wrong) && isSmall(right) && differ)
}

func TestAddWithAllFaults(t *testing.T) {
	for _, s := range smallShapes {
		if s.width > 4 {
			continue
		}
		for _, list := range allFaults(s.width) {
			for _, a := range registersOf(s.base, s.width) {
				for _, b := range registersOf(s.base, s.width) {
					checkFaults(t, a, b, list)
				}
			}
		}
	}
}

func TestAddWithFaultsOfManyPairs(t *testing.T) {
	random := rand.New(rand.NewSource(8))
	for _, p := range carryPairs() {
		checkFaults(t, p[0], p[1], randomFaults(random, len(p[0].Digits)))
		checkFaults(t, p[0], p[1], []impl.LeverFault{fault(1+random.Int63n(3), random.Int63n(int64(len(p[0].Digits))))})
	}
}

func TestWithoutFaultsTheSumIsRight(t *testing.T) {
	for _, p := range carryPairs() {
		sum, carry, code := impl.AddRegisters(p[0], p[1])
		for _, list := range [][]impl.LeverFault{nil, {}} {
			got, gotCarry, gotCode := impl.AddWithFaults(p[0], p[1], list)
			isResult(t, "sum", all(got, gotCarry, gotCode), sum, carry, code)
			if impl.ShowsFaults(p[0], p[1], list) {
				t.Errorf("%v and %v show faults where there are none", p[0], p[1])
			}
		}
	}
}

func TestWitnessOf(t *testing.T) {
	for _, c := range []struct {
		base, width int64
		fault, a, b string // no a for the code
		code        int64
	}{
		{10, 2, "late 1", "10:99", "10:01", impl.OK},
		{10, 3, "late 1", "10:099", "10:001", impl.OK},
		{10, 3, "late 2", "10:990", "10:010", impl.OK},
		{10, 3, "missing 0", "10:009", "10:001", impl.OK},
		{10, 3, "missing 2", "10:900", "10:100", impl.OK},
		{10, 3, "stuck 1", "10:000", "10:000", impl.OK},
		{10, 1, "missing 0", "10:9", "10:1", impl.OK},
		{10, 1, "stuck 0", "10:0", "10:0", impl.OK},
		{2, 1, "missing 0", "2:1", "2:1", impl.OK},
		{2, 2, "late 1", "2:11", "2:01", impl.OK},
		{16, 2, "late 1", "16:ff", "16:01", impl.OK},
		{10, 13, "late 11", "10:0990000000000", "10:0010000000000", impl.OK}, // the sum is the greatest value
		{10, 13, "missing 11", "10:0900000000000", "10:0100000000000", impl.OK},
		{10, 13, "stuck 11", "10:0000000000000", "10:0000000000000", impl.OK}, // what is shown is the greatest value
		{10, 13, "stuck 12", "10:0000000000000", "10:0000000000000", impl.OK}, // what is shown is the last carry
		{10, 14, "stuck 12", "", "", impl.ErrFull},
		{10, 13, "late 12", "", "", impl.ErrFull},
		{10, 13, "missing 12", "", "", impl.ErrFull},
		{10, 12, "missing 11", "10:900000000000", "10:100000000000", impl.OK},
		{16, 10, "missing 8", "16:0f00000000", "16:0100000000", impl.OK},
		{16, 10, "missing 9", "", "", impl.ErrFull}, // a itself is too great
		{16, 10, "late 9", "", "", impl.ErrFull},
		{16, 10, "stuck 9", "16:0000000000", "16:0000000000", impl.OK},
		{9, 13, "missing 12", "", "", impl.ErrFull},
		{6, 16, "missing 14", "6:0500000000000000", "6:0100000000000000", impl.OK},
		{6, 16, "missing 15", "", "", impl.ErrFull},
		{7, 15, "missing 14", "", "", impl.ErrFull},
		{7, 15, "missing 13", "7:060000000000000", "7:010000000000000", impl.OK},
		{10, 2, "late 0", "", "", impl.ErrNotFound},
		{10, 1, "late 0", "", "", impl.ErrNotFound},
		{2, 16, "late 0", "", "", impl.ErrNotFound},
		{16, 16, "late 0", "", "", impl.ErrNotFound},
		{10, 2, "late 2", "", "", impl.ErrRange},
		{10, 2, "stuck -1", "", "", impl.ErrRange},
		{10, 16, "stuck 16", "", "", impl.ErrRange},
		{10, 17, "stuck 16", "", "", impl.ErrRange},
		{10, 17, "stuck 0", "", "", impl.ErrRange},
		{10, 0, "stuck 0", "", "", impl.ErrRange},
		{1, 2, "late 1", "", "", impl.ErrRange},
		{17, 2, "late 1", "", "", impl.ErrRange},
		{17, 2, "late 0", "", "", impl.ErrRange}, // ErrRange comes before ErrNotFound
		{10, 17, "late 0", "", "", impl.ErrRange},
		{17, 13, "missing 12", "", "", impl.ErrRange}, // and before ErrFull
		{math.MaxInt64, 2, "late 1", "", "", impl.ErrRange},
		{math.MinInt64, 2, "late 1", "", "", impl.ErrRange},
		{1<<32 + 10, 2, "late 1", "", "", impl.ErrRange},
		{10, 1<<32 + 2, "late 1", "", "", impl.ErrRange},
	} {
		var a, b impl.Register
		if c.code == impl.OK {
			a, b = read(t, c.a), read(t, c.b)
		}
		what := fmt.Sprint(c.base, c.width, c.fault)
		isResult(t, what, purely(t, impl.WitnessOf, c.base, c.width, faults(t, c.fault)[0]), a, b, c.code)
	}
	for _, kind := range []int64{0, 4, -1, 1<<32 + 1, math.MaxInt64, math.MinInt64} {
		isResult(t, "no kind", purely(t, impl.WitnessOf, int64(10), int64(3), fault(kind, 1)), impl.Register{}, impl.Register{}, int64(impl.ErrRange))
	}
}

// TestWitnessOfAllFaults checks each fault of all bases and widths.
func TestWitnessOfAllFaults(t *testing.T) {
	for base := int64(2); base <= impl.MaxBase; base++ {
		for width := int64(1); width <= impl.MaxWidth; width++ {
			for lever := range width {
				for kind := range faultWords {
					checkWitness(t, base, width, fault(kind, lever))
				}
			}
		}
	}
}

func checkWitness(t *testing.T, base, width int64, f impl.LeverFault) {
	t.Helper()
	a, b := reg(base, make([]int64, width)...), reg(base, make([]int64, width)...)
	code := int64(impl.OK)
	switch {
	case f.Kind == impl.LeverMissing:
		a.Digits[f.Lever], b.Digits[f.Lever] = base-1, 1
	case f == fault(impl.LeverLate, 0):
		code = impl.ErrNotFound
	case f.Kind == impl.LeverLate:
		a.Digits[f.Lever], a.Digits[f.Lever-1], b.Digits[f.Lever-1] = base-1, base-1, 1
	}
	right, _ := faultySum(a, b, nil)
	wrong, _ := faultySum(a, b, []impl.LeverFault{f})
	for _, r := range []impl.Register{a, b, right, wrong} {
		if !isSmall(r) {
			code = impl.ErrFull
		}
	}
	if code != impl.OK {
		a, b = impl.Register{}, impl.Register{}
	}
	gotA, gotB, got := impl.WitnessOf(base, width, f)
	isResult(t, fmt.Sprint(base, width, f), all(gotA, gotB, got), a, b, code)
	if got == impl.OK && !impl.ShowsFaults(gotA, gotB, []impl.LeverFault{f}) {
		t.Errorf("%v and %v do not show %v", gotA, gotB, f)
	}
}

// TestLateLeverBelowAllIsNotShown checks that no registers show a fault for which there is no witness, and some all others.
func TestLateLeverBelowAllIsNotShown(t *testing.T) {
	for _, s := range smallShapes {
		for lever := range int64(s.width) {
			for kind := range faultWords {
				list := []impl.LeverFault{fault(kind, lever)}
				shown := false
				for _, a := range registersOf(s.base, s.width) {
					for _, b := range registersOf(s.base, s.width) {
						shown = shown || impl.ShowsFaults(a, b, list)
					}
				}
				_, _, code := impl.WitnessOf(s.base, int64(s.width), list[0])
				isResult(t, fmt.Sprint(s, list), all(shown), code == impl.OK)
			}
		}
	}
}

func TestRightTable(t *testing.T) {
	isResult(t, "base 2", purely(t, impl.RightTable, int64(2)), []impl.AddRow{
		{In: 0, A: 0, B: 0, Digit: 0, Carry: 0}, {In: 0, A: 0, B: 1, Digit: 1, Carry: 0}, {In: 0, A: 1, B: 0, Digit: 1, Carry: 0}, {In: 0, A: 1, B: 1, Digit: 0, Carry: 1},
		{In: 1, A: 0, B: 0, Digit: 1, Carry: 0}, {In: 1, A: 0, B: 1, Digit: 0, Carry: 1}, {In: 1, A: 1, B: 0, Digit: 0, Carry: 1}, {In: 1, A: 1, B: 1, Digit: 1, Carry: 1},
	}, int64(impl.OK))
	for base := int64(-3); base <= 20; base++ {
		if base < 2 || base > 16 {
			isResult(t, "no base", purely(t, impl.RightTable, base), []impl.AddRow(nil), int64(impl.ErrRange))
			continue
		}
		isResult(t, "rows", purely(t, impl.RightTable, base), rightRows(base), int64(impl.OK))
	}
	for _, base := range []int64{math.MaxInt64, math.MinInt64, 1<<32 + 2, -10} {
		isResult(t, "no base", purely(t, impl.RightTable, base), []impl.AddRow(nil), int64(impl.ErrRange))
	}
}

func TestTableFault(t *testing.T) {
	for base := int64(2); base <= impl.MaxBase; base++ {
		right := rightRows(base)
		isResult(t, "right table", purely(t, impl.TableFault, base, right), int64(-1), int64(impl.OK))
		for k, row := range right {
			for _, wrong := range wrongRows(base, row) {
				list := withRow(right, k, wrong)
				got, code := impl.TableFault(base, list)
				isResult(t, "one wrong row", all(got, code), int64(k), int64(impl.OK))
			}
		}
	}
	random := rand.New(rand.NewSource(82))
	for range 2000 {
		base := 2 + random.Int63n(15)
		list := randomTable(random, base)
		got, code := impl.TableFault(base, list)
		isResult(t, "some wrong rows", all(got, code), firstDifference(list, rightRows(base)), int64(impl.OK))
	}
}

// firstDifference returns the index of the first row that differs; -1 if none does.
func firstDifference(a, b []impl.AddRow) int64 {
	for k := range a {
		if a[k] != b[k] {
			return int64(k)
		}
	}
	return -1
}

func TestOtherTablesAreRejected(t *testing.T) {
	format, none := int64(impl.ErrFormat), impl.Register{}
	a, b := reg(3, 1, 2), reg(3, 2, 2)
	most, _ := impl.NewRegister(3, 16, 43046720)
	for _, list := range noTables() {
		what := fmt.Sprint(list)
		isResult(t, what, purely(t, impl.TableFault, int64(3), list), int64(0), format)
		isResult(t, what, purely(t, impl.TableWitness, int64(3), list), none, none, format)
		isResult(t, what, purely(t, impl.AddByTable, list, a, b), none, int64(0), format)
		isResult(t, what, purely(t, impl.AddByTable, list, most, most), none, int64(0), format)
		if len(list) == 18 { // a wrong row before it is not returned
			wrong := slices.Clone(list)
			wrong[2].Digit = 0
			isResult(t, what, purely(t, impl.TableFault, int64(3), wrong), int64(0), format)
			isResult(t, what, purely(t, impl.TableWitness, int64(3), wrong), none, none, format)
			isResult(t, what, purely(t, impl.AddByTable, wrong, a, b), none, int64(0), format)
		}
	}
	for base := int64(2); base <= 16; base++ {
		for other := int64(2); other <= 16; other++ {
			if base != other {
				isResult(t, "another base", purely(t, impl.TableFault, base, rightRows(other)), int64(0), format)
				isResult(t, "another base", purely(t, impl.TableWitness, base, rightRows(other)), none, none, format)
				isResult(t, "another base", purely(t, impl.AddByTable, rightRows(other), reg(base, 1), reg(base, 1)), none, int64(0), format)
			}
		}
	}
	for _, base := range []int64{1, 0, -1, -2, 17, 1<<32 + 2, math.MaxInt64, math.MinInt64} { // ErrRange comes before ErrFormat
		for _, list := range [][]impl.AddRow{nil, {}, rightRows(2), {{}, {In: 1}}, make([]impl.AddRow, 578)} {
			isResult(t, "no base", purely(t, impl.TableFault, base, list), int64(0), int64(impl.ErrRange))
			isResult(t, "no base", purely(t, impl.TableWitness, base, list), none, none, int64(impl.ErrRange))
		}
	}
}

func TestAddByTable(t *testing.T) {
	noCarry := rightRows(10)
	for k := range noCarry {
		noCarry[k].Carry = 0
	}
	always := rightRows(10)
	always[0].Digit = 1 // 0 + 0 is 1
	forgetful := rightRows(10)
	forgetful[11].Digit = 0 // 1 + 1 is 0
	for _, c := range []struct {
		list      []impl.AddRow
		a, b, sum string // no sum for ErrFull
		carry     int64
	}{
		{rightRows(10), "10:97", "10:05", "10:02", 1},
		{rightRows(10), "10:47", "10:05", "10:52", 0},
		{rightRows(10), "10:99", "10:99", "10:98", 1},
		{rightRows(2), "2:1111", "2:0001", "2:0000", 1},
		{rightRows(16), "16:efff", "16:0001", "16:f000", 0},
		{noCarry, "10:97", "10:05", "10:92", 0},
		{noCarry, "10:99", "10:99", "10:88", 0},
		{always, "10:000", "10:009", "10:119", 0},
		{always, "10:000000000000", "10:000000000000", "10:111111111111", 0},
		{always, "10:0000000000000", "10:0000000000000", "", 0}, // the digits are too great
		{rightRows(10), "10:0999999999999", "10:0000000000001", "10:1000000000000", 0},
		{rightRows(10), "10:0999999999999", "10:0000000000002", "", 0},
		{rightRows(10), "10:1000000000000", "10:1000000000000", "", 0},
		{forgetful, "10:1000000000000", "10:1000000000000", "10:0000000000000", 0}, // though the right sum is too great
	} {
		a, b := read(t, c.a), read(t, c.b)
		purely(t, impl.AddByTable, c.list, a, b)
		isResult(t, c.a+" + "+c.b, sumText(impl.AddByTable(c.list, a, b)), resultOf(c.sum, c.sum, c.carry)...)
	}
}

// tableSum adds by the rows of a table, which it finds by their numbers.
func tableSum(list []impl.AddRow, a, b impl.Register) (impl.Register, int64) {
	r, carry := reg(a.Base), int64(0)
	for k, d := range a.Digits {
		row := list[(carry*a.Base+d)*a.Base+b.Digits[k]]
		r.Digits = append(r.Digits, row.Digit)
		carry = row.Carry
	}
	return r, carry
}

func TestAddByWrongTables(t *testing.T) {
	random := rand.New(rand.NewSource(83))
	for range 300 {
		base := 2 + random.Int63n(15)
		list := randomTable(random, base)
		for range 30 {
			a, b := randomDigits(random, base, 1+random.Intn(16)), impl.Register{}
			b = randomDigits(random, base, len(a.Digits))
			if isSmall(a) && isSmall(b) {
				sum, carry := tableSum(list, a, b)
				got, gotCarry, code := impl.AddByTable(list, a, b)
				isResult(t, fmt.Sprint(a, " + ", b), all(got, gotCarry, code), smallOr(sum, carry)...)
			}
		}
	}
}

// TestPromise8RightTablesAddRightly adds by the tables in which TableFault finds no wrong row.
func TestPromise8RightTablesAddRightly(t *testing.T) {
	tables := map[int64][]impl.AddRow{}
	for base := int64(2); base <= impl.MaxBase; base++ {
		tables[base], _ = impl.RightTable(base)
		isResult(t, "wrong row", purely(t, impl.TableFault, base, tables[base]), int64(-1), int64(impl.OK))
	}
	for _, p := range carryPairs() {
		sum, carry, code := impl.AddRegisters(p[0], p[1])
		got, gotCarry, gotCode := impl.AddByTable(tables[p[0].Base], p[0], p[1])
		isResult(t, fmt.Sprint(p), all(got, gotCarry, gotCode), sum, carry, code)
	}
}

// TestPromise8OneWrongRowIsShown has all tables with one wrong row.
func TestPromise8OneWrongRowIsShown(t *testing.T) {
	for base := int64(2); base <= impl.MaxBase; base++ {
		right := rightRows(base)
		for k, row := range right {
			wrongs := wrongRows(base, row)
			if base > 6 {
				wrongs = wrongs[len(wrongs)-3:]
			}
			for _, wrong := range wrongs {
				checkTableWitness(t, base, withRow(right, k, wrong), k)
			}
		}
	}
}

// TestPromise8ManyWrongRowsAreShown has tables with several wrong rows.
func TestPromise8ManyWrongRowsAreShown(t *testing.T) {
	random := rand.New(rand.NewSource(84))
	for range 2000 {
		base := 2 + random.Int63n(15)
		list := randomTable(random, base)
		if k := firstDifference(list, rightRows(base)); k >= 0 {
			checkTableWitness(t, base, list, int(k))
		}
	}
}

// checkTableWitness checks the registers that show the wrong rows of a table, of which the row k is the first one.
func checkTableWitness(t *testing.T, base int64, list []impl.AddRow, k int) {
	t.Helper()
	n := int64(k)
	wantA, wantB := reg(base, n/base%base), reg(base, n%base)
	if n >= base*base { // only with a carry
		wantA.Digits = slices.Insert(wantA.Digits, 0, base-1)
		wantB.Digits = slices.Insert(wantB.Digits, 0, 1)
	}
	a, b, code := impl.TableWitness(base, list)
	isResult(t, "witness", all(a, b, code), wantA, wantB, int64(impl.OK))
	sum, carry, code := impl.AddByTable(list, a, b)
	right, rightCarry, rightCode := impl.AddRegisters(a, b)
	if code != impl.OK || rightCode != impl.OK || impl.SameRegister(sum, right) && carry == rightCarry {
		t.Errorf("%v and %v do not show that the row %d is wrong", a, b, k)
	}
}

// TestTableWitnessIsTheNarrowest checks that where two digits are told, no registers of one digit show a wrong row.
func TestTableWitnessIsTheNarrowest(t *testing.T) {
	for base := int64(2); base <= impl.MaxBase; base++ {
		list := rightRows(base)
		for k := base * base; k < 2*base*base; k++ { // all rows with a carry into them are wrong
			list[k] = wrongRows(base, list[k])[0]
		}
		a, b, code := impl.TableWitness(base, list)
		isResult(t, "two digits", all(a, b, code), reg(base, base-1, 0), reg(base, 1, 0), int64(impl.OK))
		for n := range base * base {
			a, b := reg(base, n/base), reg(base, n%base)
			sum, carry, code := impl.AddByTable(list, a, b)
			want, wantCarry, wantCode := impl.AddRegisters(a, b)
			isResult(t, "one digit", all(sum, carry, code), want, wantCarry, wantCode)
		}
	}
}

func TestTableWitness(t *testing.T) {
	none := impl.Register{}
	for base := int64(2); base <= impl.MaxBase; base++ {
		isResult(t, "right table", purely(t, impl.TableWitness, base, rightRows(base)), none, none, int64(impl.ErrNotFound))
	}
	for _, c := range []struct {
		base   int64
		wrong  []int // their carries are wrong
		a, b   string
		digits bool // or their digits are
	}{
		{10, []int{0}, "10:0", "10:0", false},
		{10, []int{0}, "10:0", "10:0", true},
		{10, []int{99}, "10:9", "10:9", false},
		{10, []int{37}, "10:3", "10:7", true},
		{10, []int{37, 38, 150}, "10:3", "10:7", true},
		{10, []int{150, 99, 37}, "10:3", "10:7", false},
		{10, []int{100}, "10:09", "10:01", false},
		{10, []int{137}, "10:39", "10:71", true},
		{10, []int{199, 198}, "10:99", "10:81", true},
		{2, []int{7}, "2:11", "2:11", false},
		{2, []int{4}, "2:01", "2:01", true},
		{2, []int{3, 4, 7}, "2:1", "2:1", true},
		{16, []int{511}, "16:ff", "16:f1", false},
		{16, []int{256}, "16:0f", "16:01", false},
		{16, []int{255}, "16:f", "16:f", false},
	} {
		list := rightRows(c.base)
		for _, k := range c.wrong {
			if c.digits {
				list[k].Digit = (list[k].Digit + 1) % c.base
			} else {
				list[k].Carry = 1 - list[k].Carry
			}
		}
		isResult(t, fmt.Sprint(c.base, c.wrong), purely(t, impl.TableWitness, c.base, list), read(t, c.a), read(t, c.b), int64(impl.OK))
	}
}

// oddFaultTexts look like texts of faults but are not.
var oddFaultTexts = []string{
	"missing", "missing ", " missing 1", "missing  1", "missing 1 ", "Missing 1", "LATE 1", "missing +1", "missing 01", "missing 00", "missing -0", "missing -1", "missing 16", "stuck 17", "late 100",
	"missing 15\n", "stuck1", "stuck-1", "late\t1", "late\u00a01", " 1", "1", "0 1", "1 1", "none 1", "none", "late 1 2", "late 1,stuck 2", "late 1, stuck 2", "late １", "late x", "late 1x", "late 0x1", "late 1.0",
	"missing 99999999999999999999", "missing 9223372036854775807", "missing 4294967296", "late 1\x00", "\xfflate 1", "mis 1", "missingx 1", "stucked 1", "lat 1", "missing late 1", ", 1", " ", "",
}

func TestFaultText(t *testing.T) {
	isResult(t, "example", purely(t, impl.FaultText, fault(impl.LeverLate, 1)), "late 1")
	for kind := int64(-2); kind <= 6; kind++ {
		for lever := int64(-3); lever <= 20; lever++ {
			want := ""
			if faultWords[kind] != "" && lever >= 0 && lever <= 15 {
				want = fmt.Sprintf("%s %d", faultWords[kind], lever)
			}
			isResult(t, "text", purely(t, impl.FaultText, fault(kind, lever)), want)
		}
	}
	for _, n := range []int64{1 << 32, 1<<32 + 1, -1 << 32, math.MaxInt64, math.MinInt64} {
		isResult(t, "no kind", purely(t, impl.FaultText, fault(n, 1)), "")
		isResult(t, "no lever", purely(t, impl.FaultText, fault(1, n)), "")
	}
}

// TestReadFault reads the texts of all faults, and all texts that differ from one of them in a single character.
func TestReadFault(t *testing.T) {
	texts := map[string]impl.LeverFault{}
	for kind, word := range faultWords {
		for lever := range int64(16) {
			texts[fmt.Sprintf("%s %d", word, lever)] = fault(kind, lever)
		}
	}
	check := func(s string) {
		want, ok := texts[s]
		got, gotOK := impl.ReadFault(s)
		isResult(t, fmt.Sprintf("%q", s), all(got, gotOK), want, ok)
	}
	for s := range texts {
		purely(t, impl.ReadFault, s)
		check(s)
		for i := range len(s) + 1 {
			for c := range 256 {
				check(s[:i] + string([]byte{byte(c)}) + s[i:])
				if i < len(s) {
					check(s[:i] + string([]byte{byte(c)}) + s[i+1:])
				}
			}
			check(s[:i])
			check(s[i:])
		}
	}
	for _, s := range slices.Concat(oddTexts, oddFaultTexts) {
		isResult(t, fmt.Sprintf("%q", s), purely(t, impl.ReadFault, s), impl.LeverFault{}, false)
	}
}

// TestExampleOfFaults is the example of the document: late 1 is shown by 99 and 1 in base 10.
func TestExampleOfFaults(t *testing.T) {
	f, ok := impl.ReadFault("late 1")
	isResult(t, "fault", all(f, ok), fault(impl.LeverLate, 1), true)
	a, b, code := impl.WitnessOf(10, 2, f)
	isResult(t, "witness", all(a, b, code), reg(10, 9, 9), reg(10, 1, 0), int64(impl.OK))
	isResult(t, "shown", all(impl.ShowsFaults(a, b, []impl.LeverFault{f})), true)
}
