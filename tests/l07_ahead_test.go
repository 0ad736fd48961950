package tests

import (
	"math"
	"math/big"
	"math/rand"
	"runtime"
	"slices"
	"strings"
	"sync"
	"testing"
	"time"

	"loop.example/g00930/impl"
)

// signal has the signals by their characters; b is the one that both makes and passes a carry, which no digits have.
var signal = map[rune]impl.Signal{'-': {}, 'm': {Makes: true}, 'p': {Passes: true}, 'b': {Makes: true, Passes: true}}

func signals(text string) []impl.Signal {
	var list []impl.Signal
	for _, c := range text {
		list = append(list, signal[c])
	}
	return list
}

// signsOf is the opposite of signals.
func signsOf(list []impl.Signal) string {
	text := ""
	for _, s := range list {
		for c, same := range signal {
			if s == same {
				text += string(c)
			}
		}
	}
	return text
}

// allSignals returns all texts of signals of a length.
func allSignals(length int, signs string) []string {
	list := []string{""}
	for range length {
		var longer []string
		for _, text := range list {
			for _, c := range signs {
				longer = append(longer, text+string(c))
			}
		}
		list = longer
	}
	return list
}

// randomSignals returns a text of signals in which long runs that pass a carry are likely.
func randomSignals(random *rand.Rand, length int) string {
	text := ""
	for range length {
		text += string("ppppppmm--b"[random.Intn(11)])
	}
	return text
}

// goThrough leads a carry through digits one after the other.
func goThrough(text string, carry int64) int64 {
	for _, c := range text {
		switch c {
		case 'm', 'b':
			carry = 1
		case '-':
			carry = 0
		}
	}
	return carry
}

// together returns the signal of all digits of a text that is not empty.
// It makes a carry if one leaves the digits though none enters, and passes one if all of them do.
func together(text string) impl.Signal {
	return impl.Signal{Makes: goThrough(text, 0) == 1, Passes: strings.Trim(text, "pb") == ""}
}

// groupsOf cuts a text into parts of size characters, of which the last one may be shorter.
func groupsOf(text string, size int) []string {
	var list []string
	for len(text) > size {
		list = append(list, text[:size])
		text = text[size:]
	}
	return append(list, text)
}

// signsOfSum returns the signals of the digits of a sum, found by the values of both digits.
func signsOfSum(a, b impl.Register) string {
	text := ""
	for k, d := range a.Digits {
		switch lack := a.Base - 1 - d; { // what the wheel lacks to its greatest digit
		case b.Digits[k] > lack:
			text += "m"
		case b.Digits[k] == lack:
			text += "p"
		default:
			text += "-"
		}
	}
	return text
}

// carriesOfSum returns the carries of a sum: 1 where the values of the digits below do not fit into their places.
func carriesOfSum(a, b impl.Register) []int64 {
	carries := []int64{0}
	low, weight := int64(0), int64(1)
	for k, d := range a.Digits {
		low += (d + b.Digits[k]) * weight
		carry := int64(0)
		if weight <= impl.MaxValue { // behind it there are only zeros
			weight *= a.Base
			carry = low / weight
		}
		carries = append(carries, carry)
	}
	return carries
}

// oddSignals are lists of signals of all lengths up to some that are too long.
func oddSignals() [][]impl.Signal {
	random := rand.New(rand.NewSource(7))
	list := [][]impl.Signal{nil, {}, signals("mp"), signals("b"), signals("-"), signals("p")}
	for length := range 20 {
		list = append(list, signals(randomSignals(random, length)))
	}
	return append(list, make([]impl.Signal, 1000))
}

func TestPromise1Ahead(t *testing.T) {
	for _, a := range someRegisters() {
		for _, b := range someRegisters() {
			purely(t, impl.SignalsOf, a, b)
			for _, size := range []int64{0, 1, 2, 3, 16, 17, -1, math.MaxInt64, math.MinInt64} {
				purely(t, impl.CarriesAhead, a, b, size)
				purely(t, impl.AddAhead, a, b, size)
			}
		}
	}
	for _, list := range oddSignals() {
		purely(t, impl.PrefixSignals, list)
		purely(t, impl.SignalText, list)
		for _, size := range oddNumbers {
			purely(t, impl.GroupSignals, list, size)
		}
	}
	for _, low := range signal {
		for _, high := range signal {
			purely(t, impl.JoinSignals, low, high)
		}
		for _, carry := range oddNumbers {
			purely(t, impl.CarryThrough, low, carry)
		}
	}
	for _, width := range oddNumbers {
		purely(t, impl.BestGroup, width)
		for _, size := range oddNumbers {
			purely(t, impl.DepthAhead, width, size)
		}
	}
}

func TestPromise1AheadOfValidRegisters(t *testing.T) {
	for i, p := range carryPairs() {
		if i%23 != 0 {
			continue
		}
		purely(t, impl.SignalsOf, p[0], p[1])
		for _, size := range []int64{1, 2, 5, int64(len(p[0].Digits)), 16} {
			purely(t, impl.CarriesAhead, p[0], p[1], size)
			purely(t, impl.AddAhead, p[0], p[1], size)
		}
	}
}

// TestAheadIsNotDisturbed makes additions at the same time: none may depend on another one, and nothing of them may go on
// behind their end.
func TestAheadIsNotDisturbed(t *testing.T) {
	before := runtime.NumGoroutine()
	pairs := carryPairs()
	var group sync.WaitGroup
	for part := range 8 {
		group.Go(func() {
			for i := part; i < len(pairs); i += 24 {
				a, b := pairs[i][0], pairs[i][1]
				list, _ := impl.SignalsOf(a, b)
				size := int64(1 + i%16)
				carries, code := impl.CarriesAhead(a, b, size)
				isResult(t, "carries", all(carries, code), carriesOfSum(a, b), int64(impl.OK))
				impl.AddAhead(a, b, size)
				impl.GroupSignals(list, size)
				impl.PrefixSignals(list)
				impl.CarriesAhead(a, b, 17)
			}
		})
	}
	group.Wait()
	for range 1000 {
		if runtime.NumGoroutine() <= before {
			return
		}
		time.Sleep(time.Millisecond) // one that has nothing more to do may still have to be cleared away
	}
	t.Errorf("%d goroutines go on, %d were there before", runtime.NumGoroutine(), before)
}

func TestInvalidRegistersAheadAreRejected(t *testing.T) {
	invalid, none := int64(impl.ErrInvalid), impl.Register{}
	for _, bad := range invalidRegisters() {
		for _, good := range []impl.Register{bad, reg(10, 3, 7), reg(10, 3), reg(2, 1)} { // ErrInvalid comes before ErrState
			for _, pair := range [][2]impl.Register{{bad, good}, {good, bad}} {
				isResult(t, "signals", purely(t, impl.SignalsOf, pair[0], pair[1]), []impl.Signal(nil), invalid)
				for _, size := range []int64{1, 2, 16, 0, -1, 17} { // and before ErrRange
					isResult(t, "carries", purely(t, impl.CarriesAhead, pair[0], pair[1], size), []int64(nil), invalid)
					isResult(t, "sum", purely(t, impl.AddAhead, pair[0], pair[1], size), none, int64(0), invalid)
				}
			}
		}
	}
}

func TestDifferentShapesAheadAreRejected(t *testing.T) {
	state, none := int64(impl.ErrState), impl.Register{}
	most := reg(10, 0, 0, 0, 0, 0, 0, 0, 0, 0, 0, 0, 0, 1)
	wide := reg(10, 1, 0, 0, 0, 0, 0, 0, 0, 0, 0, 0, 0, 0, 0)
	for _, pair := range [][2]impl.Register{
		{reg(10, 1), reg(10, 1, 0)}, {reg(10, 1, 0), reg(10, 1)}, {reg(10, 1), reg(9, 1)}, {reg(2, 1), reg(16, 1)}, {reg(2, 1), reg(16, 1, 0)},
		{most, wide}, {wide, most}, // ErrState comes before ErrFull
	} {
		isResult(t, "signals", purely(t, impl.SignalsOf, pair[0], pair[1]), []impl.Signal(nil), state)
		for _, size := range []int64{1, 2, 16, 0, -1, 17, math.MaxInt64} { // and before ErrRange
			isResult(t, "carries", purely(t, impl.CarriesAhead, pair[0], pair[1], size), []int64(nil), state)
			isResult(t, "sum", purely(t, impl.AddAhead, pair[0], pair[1], size), none, int64(0), state)
		}
	}
}

// notSizes are no sizes of groups and no widths.
var notSizes = []int64{0, -1, -16, 17, 18, 32, 1 << 32, 1<<32 + 2, math.MaxInt64, math.MinInt64}

func TestSizesAheadAreChecked(t *testing.T) {
	outOfRange, none := int64(impl.ErrRange), impl.Register{}
	most := reg(10, 0, 0, 0, 0, 0, 0, 0, 0, 0, 0, 0, 0, 1)
	for _, size := range notSizes {
		isResult(t, "carries", purely(t, impl.CarriesAhead, reg(10, 7, 9), reg(10, 5, 0), size), []int64(nil), outOfRange)
		isResult(t, "sum", purely(t, impl.AddAhead, reg(10, 7, 9), reg(10, 5, 0), size), none, int64(0), outOfRange)
		isResult(t, "ErrRange comes before ErrFull", purely(t, impl.AddAhead, most, most, size), none, int64(0), outOfRange)
		isResult(t, "groups", purely(t, impl.GroupSignals, signals("mp"), size), []impl.Signal(nil), outOfRange)
		isResult(t, "groups of no list", purely(t, impl.GroupSignals, []impl.Signal{}, size), []impl.Signal(nil), outOfRange)
		isResult(t, "steps", purely(t, impl.DepthAhead, int64(8), size), int64(0), outOfRange)
		isResult(t, "steps", purely(t, impl.DepthAhead, size, int64(3)), int64(0), outOfRange)
		isResult(t, "steps", purely(t, impl.DepthAhead, size, size), int64(0), outOfRange)
		isResult(t, "best group", purely(t, impl.BestGroup, size), int64(0), int64(0), outOfRange)
	}
	for size := int64(1); size <= 16; size++ { // greater ones than the width are sizes, too
		isResult(t, "carries", purely(t, impl.CarriesAhead, reg(10, 7, 9), reg(10, 5, 0), size), []int64{0, 1, 1}, int64(impl.OK))
		isResult(t, "sum", purely(t, impl.AddAhead, reg(10, 7, 9), reg(10, 5, 0), size), reg(10, 2, 0), int64(1), int64(impl.OK))
		isResult(t, "full", purely(t, impl.AddAhead, most, most, size), none, int64(0), int64(impl.ErrFull))
		isResult(t, "carries of what is full", purely(t, impl.CarriesAhead, most, most, size), make([]int64, 14), int64(impl.OK))
	}
}

func TestListsOfSignalsAreChecked(t *testing.T) {
	for length := range 40 {
		list := signals(strings.Repeat("p", length))
		groups, code := impl.GroupSignals(list, 16)
		prefixes, prefixCode := impl.PrefixSignals(list)
		if length == 0 || length > 16 {
			isResult(t, "groups", all(groups, code), []impl.Signal(nil), int64(impl.ErrRange))
			isResult(t, "prefixes", all(prefixes, prefixCode), []impl.Signal(nil), int64(impl.ErrRange))
			continue
		}
		isResult(t, "groups", all(groups, code), signals("p"), int64(impl.OK))
		isResult(t, "prefixes", all(prefixes, prefixCode), list, int64(impl.OK))
	}
	isResult(t, "no list", purely(t, impl.PrefixSignals, []impl.Signal(nil)), []impl.Signal(nil), int64(impl.ErrRange))
	isResult(t, "no list", purely(t, impl.GroupSignals, []impl.Signal(nil), int64(1)), []impl.Signal(nil), int64(impl.ErrRange))
}

func TestSignalsOf(t *testing.T) {
	for _, c := range []struct{ a, b, want string }{
		{"10:97", "10:05", "mp"},
		{"10:05", "10:97", "mp"},
		{"10:0", "10:8", "-"},
		{"10:0", "10:9", "p"},
		{"10:1", "10:9", "m"},
		{"10:9", "10:9", "m"},
		{"10:0", "10:0", "-"},
		{"10:5219", "10:4890", "pmmp"},
		{"2:0011", "2:0101", "mpp-"},
		{"16:f8f0", "16:07f1", "-mpp"},
		{"16:ffffffff", "16:00000001", "mppppppp"},
		{"3:2101", "3:0210", "--mp"},
		{"10:1000000000000", "10:1000000000000", "-------------"}, // also if the sum is not valid
		{"10:0999999999999", "10:0999999999999", "mmmmmmmmmmmm-"},
	} {
		isResult(t, c.a+" + "+c.b, purely(t, impl.SignalsOf, read(t, c.a), read(t, c.b)), signals(signsOfSum(read(t, c.a), read(t, c.b))), int64(impl.OK))
		list, code := impl.SignalsOf(read(t, c.a), read(t, c.b))
		isResult(t, c.a+" + "+c.b, all(signsOf(list), code), c.want, int64(impl.OK))
	}
}

func TestSignalsOfAllDigits(t *testing.T) {
	for base := int64(2); base <= impl.MaxBase; base++ {
		for a := range base {
			for b := range base {
				got, code := impl.SignalsOf(reg(base, a), reg(base, b))
				isResult(t, "signal", all(got, code), []impl.Signal{{Makes: a+b >= base, Passes: a+b == base-1}}, int64(impl.OK))
			}
		}
	}
}

func TestSignalsOfManyPairs(t *testing.T) {
	for _, p := range carryPairs() {
		list, code := impl.SignalsOf(p[0], p[1])
		isResult(t, impl.RegisterText(p[0])+" + "+impl.RegisterText(p[1]), all(signsOf(list), code), signsOfSum(p[0], p[1]), int64(impl.OK))
	}
}

func TestJoinSignals(t *testing.T) {
	for pair, want := range map[string]rune{ // the lower one first
		"--": '-', "m-": '-', "p-": '-', "b-": '-',
		"-m": 'm', "mm": 'm', "pm": 'm', "bm": 'm',
		"-p": '-', "mp": 'm', "pp": 'p', "bp": 'b',
		"-b": 'm', "mb": 'm', "pb": 'b', "bb": 'b',
	} {
		list := signals(pair)
		isResult(t, pair, purely(t, impl.JoinSignals, list[0], list[1]), signal[want])
	}
}

// TestJoinedSignalsLeadCarries compares a joined signal with its parts, one behind the other, and joins three in both ways.
func TestJoinedSignalsLeadCarries(t *testing.T) {
	for _, low := range signal {
		for _, high := range signal {
			for carry := range int64(2) {
				between, _ := impl.CarryThrough(low, carry)
				want, _ := impl.CarryThrough(high, between)
				isResult(t, "carry", purely(t, impl.CarryThrough, impl.JoinSignals(low, high), carry), want, int64(impl.OK))
			}
			for _, top := range signal {
				one := impl.JoinSignals(impl.JoinSignals(low, high), top)
				isResult(t, "three signals", all(one), impl.JoinSignals(low, impl.JoinSignals(high, top)))
			}
		}
	}
}

func TestCarryThrough(t *testing.T) {
	for sign, want := range map[rune][2]int64{'-': {0, 0}, 'm': {1, 1}, 'p': {0, 1}, 'b': {1, 1}} {
		for carry := range int64(2) {
			isResult(t, string(sign), purely(t, impl.CarryThrough, signal[sign], carry), want[carry], int64(impl.OK))
		}
		for _, carry := range []int64{-1, 2, 3, 1 << 32, 1<<32 + 1, math.MaxInt64, math.MinInt64} {
			isResult(t, string(sign), purely(t, impl.CarryThrough, signal[sign], carry), int64(0), int64(impl.ErrRange))
		}
	}
}

func TestGroupSignals(t *testing.T) {
	for _, c := range []struct {
		list string
		size int64
		want string
	}{
		{"mp", 1, "mp"},
		{"mp", 2, "m"},
		{"mp", 3, "m"}, // the only group has fewer
		{"mp", 16, "m"},
		{"pm", 2, "m"},
		{"p-", 2, "-"},
		{"m-", 2, "-"},
		{"pp", 2, "p"},
		{"m", 1, "m"},
		{"m", 16, "m"},
		{"b", 4, "b"},
		{"ppmp-", 2, "pm-"}, // the last group has one
		{"pppppppp-", 4, "pp-"},
		{"pppppppppm", 4, "ppm"}, // the last group has two
		{"ppppppppm-", 4, "pp-"},
		{"pppppppppp", 3, "pppp"},
		{"-ppppppppp", 3, "-ppp"}, // the lowest group is not the one with fewer
		{"mpp-ppmp", 3, "m-m"},
		{"ppmppm", 3, "mm"}, // all groups have three
		{"ppmppmp", 3, "mmp"},
		{"mppppppppppppppp", 16, "m"},
		{"mppppppppppppppp", 15, "mp"},
		{"mppppppppppppppp", 8, "mp"},
		{"-pppppppppppppp-", 15, "--"},
		{"ppppppppppppppp-", 15, "p-"},
		{"ppppppppppppppp-", 16, "-"},
		{"pbpb", 2, "bb"},
	} {
		isResult(t, c.list, purely(t, impl.GroupSignals, signals(c.list), c.size), signals(c.want), int64(impl.OK))
	}
}

// signalTexts has all short texts of signals, and some of each greater length that is allowed.
func signalTexts() []string {
	random := rand.New(rand.NewSource(77))
	var list []string
	for length := 1; length <= 5; length++ {
		list = append(list, allSignals(length, "-mpb")...)
	}
	for length := 6; length <= 16; length++ {
		for range 60 {
			list = append(list, randomSignals(random, length))
		}
		list = append(list, strings.Repeat("p", length), "m"+strings.Repeat("p", length-1), strings.Repeat("p", length-1)+"-", strings.Repeat("p", length-1)+"m")
	}
	return list
}

func TestGroupSignalsOfAllSizes(t *testing.T) {
	for _, text := range signalTexts() {
		for size := 1; size <= 16; size++ {
			var want []impl.Signal
			for _, part := range groupsOf(text, size) {
				want = append(want, together(part))
			}
			got, code := impl.GroupSignals(signals(text), int64(size))
			isResult(t, text, all(got, code), want, int64(impl.OK))
		}
	}
}

func TestPrefixSignals(t *testing.T) {
	for list, want := range map[string]string{
		"m": "m", "p": "p", "-": "-", "b": "b",
		"mp": "mm", "pm": "pm", "p-p": "p--", "-pp": "---", "mp-pm": "mm--m", "ppp-mp": "ppp-mm",
		"pppppppppppppppp": "pppppppppppppppp", "pppppppppppppppm": "pppppppppppppppm", "m-m-m-m-m-m-m-m-": "m-m-m-m-m-m-m-m-",
		"bp": "bb", "pbm": "pbm", "b-b": "b-m",
	} {
		isResult(t, list, purely(t, impl.PrefixSignals, signals(list)), signals(want), int64(impl.OK))
	}
	for _, text := range signalTexts() {
		var want []impl.Signal
		for k := range text {
			want = append(want, together(text[:k+1]))
		}
		got, code := impl.PrefixSignals(signals(text))
		isResult(t, text, all(got, code), want, int64(impl.OK))
	}
}

// TestPrefixesTellTheCarries has the carries of sums as what the signals of the digits below make.
func TestPrefixesTellTheCarries(t *testing.T) {
	for _, p := range carryPairs() {
		list, _ := impl.SignalsOf(p[0], p[1])
		prefixes, _ := impl.PrefixSignals(list)
		carries := []int64{0}
		for _, s := range prefixes {
			carry, _ := impl.CarryThrough(s, 0)
			carries = append(carries, carry)
		}
		isResult(t, impl.SignalText(list), all(carries), carriesOfSum(p[0], p[1]))
	}
}

func TestCarriesAhead(t *testing.T) {
	for _, c := range []struct {
		a, b string
		want []int64
	}{
		{"10:97", "10:05", []int64{0, 1, 1}},
		{"10:9", "10:1", []int64{0, 1}},
		{"10:9", "10:0", []int64{0, 0}},
		{"2:1", "2:1", []int64{0, 1}},
		{"10:99", "10:00", []int64{0, 0, 0}},
		{"10:999", "10:001", []int64{0, 1, 1, 1}}, // through a last group of one digit, and out of it
		{"10:89999", "10:00001", []int64{0, 1, 1, 1, 1, 0}},
		{"10:49999", "10:50001", []int64{0, 1, 1, 1, 1, 1}},
		{"10:90000", "10:10000", []int64{0, 0, 0, 0, 0, 1}}, // only the last group makes one
		{"10:9909995", "10:0000005", []int64{0, 1, 1, 1, 1, 0, 0, 0}},
		{"10:4995995", "10:0005005", []int64{0, 1, 1, 1, 1, 1, 1, 0}},
		{"2:1111111111111111", "2:0000000000000001", []int64{0, 1, 1, 1, 1, 1, 1, 1, 1, 1, 1, 1, 1, 1, 1, 1, 1}},
		{"2:0111111111111111", "2:0000000000000001", []int64{0, 1, 1, 1, 1, 1, 1, 1, 1, 1, 1, 1, 1, 1, 1, 1, 0}},
		{"10:1000000000000", "10:0999999999999", make([]int64, 14)},
	} {
		for size := int64(1); size <= impl.MaxWidth; size++ {
			isResult(t, c.a+" + "+c.b, purely(t, impl.CarriesAhead, read(t, c.a), read(t, c.b), size), c.want, int64(impl.OK))
		}
	}
}

func TestPromise7CarriesAheadAreTheCarriesOfTheSum(t *testing.T) {
	for _, p := range carryPairs() {
		a, b := p[0], p[1]
		what := impl.RegisterText(a) + " + " + impl.RegisterText(b)
		want, wantCode := impl.CarriesOf(a, b)
		isResult(t, what, all(want, wantCode), carriesOfSum(a, b), int64(impl.OK))
		for _, size := range sizesFor(len(a.Digits)) {
			got, code := impl.CarriesAhead(a, b, size)
			isResult(t, what+" by "+impl.Decimal(size), all(got, code), want, int64(impl.OK))
		}
	}
}

func TestPromise7AddAheadIsAddRegisters(t *testing.T) {
	full := 0
	for _, p := range carryPairs() {
		a, b := p[0], p[1]
		what := impl.RegisterText(a) + " + " + impl.RegisterText(b)
		want, wantCarry, wantCode := impl.AddRegisters(a, b)
		exact, ok := bigDigits(a.Base, len(a.Digits), new(big.Int).Add(bigValue(a), bigValue(b)))
		if !ok {
			full++
			exact = impl.Register{}
		}
		isResult(t, what, all(want, wantCode == impl.OK), exact, ok)
		for _, size := range sizesFor(len(a.Digits)) {
			sum, carry, code := impl.AddAhead(a, b, size)
			isResult(t, what+" by "+impl.Decimal(size), all(sum, carry, code), want, wantCarry, wantCode)
		}
	}
	if full == 0 {
		t.Error("no sum is too great")
	}
}

// sizesFor has all sizes that make different groups of a width, one that is greater, and the greatest one.
func sizesFor(width int) []int64 {
	var list []int64
	for size := range min(width+1, impl.MaxWidth) {
		list = append(list, int64(size+1))
	}
	if last := int64(impl.MaxWidth); !slices.Contains(list, last) {
		list = append(list, last)
	}
	return list
}

// TestPromise7AllSignals has a sum for each row of signals up to a width, in all groups.
func TestPromise7AllSignals(t *testing.T) {
	for width := 1; width <= 7; width++ {
		for _, text := range allSignals(width, "-mp") {
			a, b := reg(3), reg(3)
			want := []int64{0}
			for k, c := range text {
				a.Digits = append(a.Digits, 1)
				b.Digits = append(b.Digits, map[rune]int64{'-': 0, 'p': 1, 'm': 2}[c])
				want = append(want, goThrough(text[:k+1], 0))
			}
			for size := 1; size <= width; size++ {
				got, code := impl.CarriesAhead(a, b, int64(size))
				isResult(t, text, all(got, code), want, int64(impl.OK))
			}
		}
	}
}

func TestAddAhead(t *testing.T) {
	for _, c := range []struct {
		a, b, sum string // no sum for ErrFull
		carry     int64
	}{
		{"10:97", "10:05", "10:02", 1},
		{"10:47", "10:05", "10:52", 0},
		{"10:99", "10:99", "10:98", 1},
		{"10:00", "10:00", "10:00", 0},
		{"10:9", "10:9", "10:8", 1},
		{"2:1", "2:0", "2:1", 0},
		{"2:1111", "2:1111", "2:1110", 1},
		{"16:efff", "16:0001", "16:f000", 0},
		{"16:8800000000", "16:7800000000", "16:0000000000", 1},
		{"10:0999999999999", "10:0000000000001", "10:1000000000000", 0}, // the greatest value
		{"10:0999999999999", "10:0000000000002", "", 0},
		{"10:1000000000000", "10:0000000000000", "10:1000000000000", 0},
		{"10:1000000000000", "10:0000000000001", "", 0},
		{"10:999999999999", "10:999999999999", "10:999999999998", 1},
		{"2:1000000000000000", "2:1000000000000000", "2:0000000000000000", 1},
	} {
		for size := int64(1); size <= impl.MaxWidth; size++ {
			a, b := read(t, c.a), read(t, c.b)
			purely(t, impl.AddAhead, a, b, size)
			isResult(t, c.a+" + "+c.b, sumText(impl.AddAhead(a, b, size)), resultOf(c.sum, c.sum, c.carry)...)
		}
	}
}

func TestDepthAhead(t *testing.T) {
	for _, c := range [][3]int64{
		{8, 3, 8}, {8, 2, 7}, {8, 1, 9}, {8, 4, 9}, {8, 8, 16}, {8, 9, 16}, {8, 16, 16}, {8, 7, 15}, {8, 5, 11},
		{1, 1, 2}, {1, 2, 2}, {1, 16, 2}, {2, 1, 3}, {2, 2, 4}, {2, 3, 4}, {3, 2, 5}, {16, 1, 17}, {16, 16, 32}, {16, 15, 31}, {16, 4, 11}, {16, 5, 13},
		{9, 4, 10}, {10, 4, 10}, {12, 4, 10}, {13, 4, 11},
	} {
		isResult(t, "steps", purely(t, impl.DepthAhead, c[0], c[1]), c[2], int64(impl.OK))
	}
	for width := 1; width <= 16; width++ {
		for size := 1; size <= 16; size++ {
			groups := groupsOf(strings.Repeat("p", width), size)
			want := 2*len(groups[0]) + len(groups) - 1
			isResult(t, "steps", purely(t, impl.DepthAhead, int64(width), int64(size)), int64(want), int64(impl.OK))
		}
	}
}

func TestBestGroup(t *testing.T) {
	for i, want := range [][2]int64{
		{1, 2}, {1, 3}, {1, 4}, {1, 5}, {1, 6}, {2, 6}, {2, 7}, {2, 7}, // 2 is as good for the widths 4 and 5
		{2, 8}, {2, 8}, {2, 9}, {2, 9}, {2, 10}, {2, 10}, {3, 10}, {2, 11}, // the best one of 16 is less than that of 15
	} {
		width := int64(i + 1)
		isResult(t, "best group", purely(t, impl.BestGroup, width), want[0], want[1], int64(impl.OK))
		for size := int64(1); size <= impl.MaxWidth; size++ {
			steps, _ := impl.DepthAhead(width, size)
			if steps < want[1] || steps == want[1] && size < want[0] {
				t.Errorf("for the width %d, %d is a better size", width, size)
			}
		}
	}
}

func TestSignalText(t *testing.T) {
	isResult(t, "both", purely(t, impl.SignalText, signals("b-pmb")), "m-pmm") // one that makes a carry is m, whether it passes one or not
	isResult(t, "no list", purely(t, impl.SignalText, []impl.Signal(nil)), "")
	for length := range 6 {
		for _, text := range allSignals(length, "-mp") {
			isResult(t, "text", purely(t, impl.SignalText, signals(text)), text)
		}
	}
	for _, length := range []int{16, 17, 1000} { // of any length
		text := strings.Repeat("mp-", length)[:length]
		isResult(t, "text", purely(t, impl.SignalText, signals(text)), text)
	}
	list, _ := impl.SignalsOf(reg(10, 7, 9), reg(10, 5, 0))
	isResult(t, "example", purely(t, impl.SignalText, list), "mp")
}
