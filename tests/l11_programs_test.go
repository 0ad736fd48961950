package tests

import (
	"fmt"
	"math"
	"math/big"
	"math/rand"
	"regexp"
	"slices"
	"strconv"
	"strings"
	"testing"

	"loop.example/g00930/impl"
)

func instr(op, arg int64) impl.Instr { return impl.Instr{Op: op, Arg: arg} }

// program returns the program with some lines, which are separated by commas.
func program(t *testing.T, text string) []impl.Instr {
	t.Helper()
	list, code := impl.ReadProgram(linesOf(text))
	if code != impl.OK {
		t.Fatalf("%q is no program", text)
	}
	return list
}

func linesOf(text string) []string {
	if text == "" {
		return nil
	}
	return strings.Split(text, ", ")
}

// isInstr tells whether an instruction has one of the forms of the document.
func isInstr(in impl.Instr) bool {
	switch in.Op {
	case impl.OpSet:
		return in.Arg >= 0 && in.Arg <= 1000000000000
	case impl.OpAdd, impl.OpSub, impl.OpRight, impl.OpLeft, impl.OpTimes:
		return in.Arg >= 1 && in.Arg <= 100
	}
	return (in.Op == impl.OpClear || in.Op == impl.OpZero || in.Op == impl.OpBell || in.Op == impl.OpEnd) && in.Arg == 0
}

func isLoop(in impl.Instr) bool { return in.Op == impl.OpTimes || in.Op == impl.OpBell }

// depths returns how many loops are begun and not ended behind each instruction; the last depth is negative where an end has no loop.
func depths(list []impl.Instr) []int64 {
	var result []int64
	depth := int64(0)
	for _, in := range list {
		if isLoop(in) {
			depth++
		}
		if in.Op == impl.OpEnd {
			depth--
		}
		result = append(result, depth)
		if depth < 0 {
			break
		}
	}
	return result
}

func isProgram(list []impl.Instr) bool {
	if len(list) > 120 || slices.ContainsFunc(list, func(in impl.Instr) bool { return !isInstr(in) }) {
		return false
	}
	d := append([]int64{0}, depths(list)...)
	return slices.Min(d) == 0 && slices.Max(d) <= 4 && d[len(d)-1] == 0
}

// endOf returns the index of the end of the loop that begins at an index.
func endOf(list []impl.Instr, at int) int64 {
	return int64(at + slices.Index(depths(list[at:]), 0))
}

// ownLines has all lines of instructions but those of OpSet.
func ownLines() map[string]impl.Instr {
	lines := map[string]impl.Instr{"clear": instr(6, 0), "zero": instr(7, 0), "bell": instr(9, 0), "end": instr(10, 0)}
	for word, op := range map[string]int64{"add": 2, "sub": 3, "right": 4, "left": 5, "times": 8} {
		for n := int64(1); n <= 100; n++ {
			lines[word+" "+strconv.FormatInt(n, 10)] = instr(op, n)
		}
	}
	for word, op := range map[string]int64{"add": 2, "sub": 3, "right": 4, "left": 5} {
		delete(lines, word+" 1")
		lines[word] = instr(op, 1)
	}
	return lines
}

var (
	otherOwnLines = ownLines()
	setLine       = regexp.MustCompile(`^set (0|[1-9][0-9]{0,11}|1000000000000)$`)
	lineWord      = regexp.MustCompile(`^(set|add|sub|right|left|clear|zero|times|bell|end)( |$)`)
)

// instrOf returns the instruction of a line, or what is wrong with the line without regard to the others.
func instrOf(line string) (impl.Instr, int64) {
	if in, ok := otherOwnLines[line]; ok {
		return in, impl.LineNone
	}
	if match := setLine.FindStringSubmatch(line); match != nil && !strings.HasSuffix(line, "\n") {
		n, _ := strconv.ParseInt(match[1], 10, 64)
		return instr(impl.OpSet, n), impl.LineNone
	}
	if word, _, _ := strings.Cut(line, " "); lineWord.MatchString(word) {
		return impl.Instr{}, impl.LineArg
	}
	return impl.Instr{}, impl.LineWord
}

// linesRead returns the program of lines, or the first fault and its place.
func linesRead(lines []string) (list []impl.Instr, at, fault int64) {
	for i, line := range lines {
		in, fault := instrOf(line)
		if fault != impl.LineNone {
			return nil, int64(i), fault
		}
		list = append(list, in)
		switch d := depths(list); {
		case d[i] < 0:
			return nil, int64(i), impl.LineEnd
		case d[i] > 4:
			return nil, int64(i), impl.LineDeep
		}
	}
	if d := depths(list); len(d) > 0 && d[len(d)-1] > 0 {
		return nil, int64(len(lines)), impl.LineOpen
	}
	return list, -1, impl.LineNone
}

// loopAtWork is a loop in a flat program: where it begins, how many rounds are left, and whether its bell has rung.
type loopAtWork struct {
	begin int
	left  int64
	rung  bool
}

// ran is what comes of a program on a machine.
type ran struct {
	machine impl.Machine
	strokes []int64
	code    int64
}

func (r ran) asRun() []any { return all(r.machine, int64(len(r.strokes)), r.code) }

func (r ran) asTrace() []any { return all(r.strokes, r.code) }

// programRun runs a program as a flat list in which it jumps, with strokes that are computed with values.
func programRun(m impl.Machine, list []impl.Instr) ran {
	var work []loopAtWork
	var trace []int64
	made := 0
	for at := 0; at < len(list); at++ {
		in := list[at]
		switch in.Op {
		case impl.OpSet:
			if made++; made > 3000 {
				return ran{code: impl.ErrFull}
			}
			s := machineShapeOf(m)
			if big.NewInt(in.Arg).Cmp(s.values(s.setting)) >= 0 {
				return ran{code: impl.ErrJam}
			}
			m = s.with(big.NewInt(in.Arg), bigValue(m.Result), bigValue(m.Count), m.Place)
		case impl.OpTimes, impl.OpBell:
			if made++; made > 3000 {
				return ran{code: impl.ErrFull}
			}
			work = append(work, loopAtWork{begin: at, left: in.Arg})
		case impl.OpEnd:
			loop := &work[len(work)-1]
			loop.left--
			if loop.rung || loop.left == 0 {
				work = work[:len(work)-1]
				continue
			}
			if made++; made > 3000 {
				return ran{code: impl.ErrFull}
			}
			at = loop.begin
		default:
			for range max(in.Arg, 1) {
				if made++; made > 3000 {
					return ran{code: impl.ErrFull}
				}
				var bell bool
				m, bell = strokeDone(m, in.Op-1)
				trace = append(trace, in.Op-1)
				if bell && len(work) > 0 && list[work[len(work)-1].begin].Op == impl.OpBell {
					work[len(work)-1].rung = true
				}
			}
		}
	}
	return ran{m, trace, impl.OK}
}

// randomProgram returns a program of at most about size instructions with loops of a depth of at most most.
func randomProgram(random *rand.Rand, size, most int) []impl.Instr {
	var list []impl.Instr
	for len(list) < size {
		switch k := random.Intn(10); {
		case k < 2 && most > 0:
			begin := instr(impl.OpBell, 0)
			if random.Intn(2) == 0 {
				begin = instr(impl.OpTimes, 1+random.Int63n(4))
			}
			list = append(list, begin)
			list = append(list, randomProgram(random, random.Intn(size+1), most-1)...)
			list = append(list, instr(impl.OpEnd, 0))
		case k == 2:
			list = append(list, instr(impl.OpClear+random.Int63n(2), 0))
		case k == 3:
			list = append(list, instr(impl.OpSet, random.Int63n(12)))
		default:
			list = append(list, instr(impl.OpAdd+random.Int63n(4), 1+random.Int63n(4)))
		}
	}
	if len(list) > 120 {
		return nil
	}
	return list
}

// nested returns a program with loops within each other, all of them times or bells.
func nested(begin impl.Instr, depth int, within ...impl.Instr) []impl.Instr {
	return slices.Concat(slices.Repeat([]impl.Instr{begin}, depth), within, slices.Repeat([]impl.Instr{instr(impl.OpEnd, 0)}, depth))
}

// somePrograms has programs of many forms, the empty one and the longest ones among them.
func somePrograms() [][]impl.Instr {
	add, end, bell, times := instr(impl.OpAdd, 1), instr(impl.OpEnd, 0), instr(impl.OpBell, 0), instr(impl.OpTimes, 2)
	list := [][]impl.Instr{
		nil, {}, {add}, {instr(impl.OpSet, 0)}, {instr(impl.OpSet, impl.MaxValue)}, {times, end}, {bell, end}, {bell, add, end}, {times, add, end, bell, instr(impl.OpSub, 1), end, add},
		{instr(impl.OpClear, 0), instr(impl.OpZero, 0)}, {instr(impl.OpAdd, 100), instr(impl.OpSub, 100), instr(impl.OpRight, 100), instr(impl.OpLeft, 100)}, {instr(impl.OpTimes, 100), add, end},
		nested(bell, 4, add), nested(times, 4, add), nested(times, 4), nested(bell, 3, times, end, times, add, end), slices.Repeat([]impl.Instr{add}, 120), slices.Repeat([]impl.Instr{times, add, end}, 40),
		slices.Repeat(nested(times, 4), 15), slices.Repeat(nested(instr(impl.OpTimes, 100), 4), 15), slices.Repeat([]impl.Instr{bell, end}, 60), nested(instr(impl.OpTimes, 100), 4, slices.Repeat([]impl.Instr{add}, 112)...),
	}
	random := rand.New(rand.NewSource(110))
	for range 40 {
		list = append(list, randomProgram(random, 1+random.Intn(20), random.Intn(5)))
	}
	return list
}

// noPrograms has lists of instructions that are no programs, each for one reason.
func noPrograms() [][]impl.Instr {
	add, end, bell, times := instr(impl.OpAdd, 1), instr(impl.OpEnd, 0), instr(impl.OpBell, 0), instr(impl.OpTimes, 2)
	list := [][]impl.Instr{
		{{}}, {end}, {bell}, {times}, {end, bell}, {bell, end, end}, {times, bell, end}, {add, times, add}, {add, end, times}, {times, end, end, times}, {bell, bell, end, end, end}, {end, end}, {bell, times},
		nested(bell, 5), nested(times, 5), nested(times, 5, add), nested(bell, 4, times, end), nested(times, 4, bell, add, end), nested(times, 3, bell, end, bell, bell, end, end), append(nested(times, 4), nested(times, 5)...),
		slices.Repeat([]impl.Instr{add}, 121), slices.Repeat([]impl.Instr{times, end}, 61), append(slices.Repeat([]impl.Instr{bell, end}, 60), add), slices.Repeat([]impl.Instr{add}, 5000), slices.Repeat([]impl.Instr{bell}, 121),
		make([]impl.Instr, 3), make([]impl.Instr, 121), nested(bell, 60, add), slices.Repeat([]impl.Instr{end}, 200), append([]impl.Instr{times}, slices.Repeat([]impl.Instr{add}, 120)...),
	}
	for _, op := range []int64{0, -1, 11, 12, 255, 256 + impl.OpAdd, 1<<32 + impl.OpAdd, -impl.OpAdd, math.MaxInt64, math.MinInt64} {
		for _, arg := range []int64{0, 1, 2, 100} {
			list = append(list, []impl.Instr{instr(op, arg)}, []impl.Instr{add, instr(op, arg), add})
		}
	}
	for op := int64(impl.OpSet); op <= impl.OpEnd; op++ {
		for _, arg := range []int64{-1, -100, 0, 1, 2, 101, 102, 1 << 32, 1<<32 + 1, impl.MaxValue + 1, math.MaxInt64, math.MinInt64, math.MinInt64 + 1} {
			if in := instr(op, arg); !isInstr(in) {
				list = append(list, []impl.Instr{in}, []impl.Instr{times, in, end}, []impl.Instr{bell, in}, []impl.Instr{in, end})
			}
		}
	}
	return list
}

// machinesForPrograms has machines on which the bell rings soon at both ends of the carriage and of the Result.
func machinesForPrograms(t *testing.T) []impl.Machine {
	t.Helper()
	var list []impl.Machine
	for _, text := range []string{"10:3 10:10 10:0 0", "10:03 10:0066 10:022 2", "2:1 2:0 2:0 0", "2:11 2:0101 2:11 1", "3:2 3:12 3:20 1", "16:f 16:ff 16:f 0", "10:0 10:99 10:00 0", "10:123 10:000000 10:0000 1", "10:7 10:999999999999 10:000000000000 11"} {
		list = append(list, machine(t, text))
	}
	return list
}

func TestPromise1Programs(t *testing.T) {
	machines := append(machinesForPrograms(t), invalidMachines()[:4]...)
	for i, list := range append(somePrograms(), noPrograms()...) {
		purely(t, impl.ValidProgram, list)
		purely(t, impl.ProgramLines, list)
		purely(t, impl.DepthOfProgram, list)
		purely(t, impl.FlatStrokes, list)
		for _, at := range append([]int64{3, 4, 5, 119, 120}, oddNumbers...) {
			purely(t, impl.MatchOf, list, at)
		}
		for j, m := range machines {
			if (i+j)%3 == 0 {
				purely(t, impl.RunProgram, m, list)
				purely(t, impl.TraceProgram, m, list)
			}
		}
	}
	for _, n := range oddNumbers {
		purely(t, impl.LineFaultName, n)
		for _, op := range oddNumbers {
			purely(t, impl.ValidProgram, []impl.Instr{instr(op, n)})
			purely(t, impl.ProgramLines, []impl.Instr{instr(op, n)})
		}
	}
}

func TestPromise1LinesOfPrograms(t *testing.T) {
	lists := [][]string{nil, {}, oddTexts, {"add", "sub 2"}, slices.Repeat([]string{"add"}, 120), slices.Repeat([]string{"add"}, 121), slices.Repeat([]string{""}, 121), slices.Repeat([]string{"bell"}, 120)}
	for _, s := range oddTexts {
		lists = append(lists, []string{s}, []string{"bell", s, "end"}, []string{"set " + s}, []string{"add " + s}, []string{"times " + s, "end"}, []string{s + " 2"}, []string{s + "end"})
	}
	for _, list := range somePrograms() {
		lines, _ := impl.ProgramLines(list)
		lists = append(lists, lines)
	}
	for _, lines := range lists {
		purely(t, impl.CheckProgram, lines)
		purely(t, impl.ReadProgram, lines)
	}
}

func TestConstantsOfPrograms(t *testing.T) {
	got := all(int64(impl.OpSet), int64(impl.OpAdd), int64(impl.OpSub), int64(impl.OpRight), int64(impl.OpLeft), int64(impl.OpClear), int64(impl.OpZero), int64(impl.OpTimes), int64(impl.OpBell), int64(impl.OpEnd))
	isResult(t, "operations", got, int64(1), int64(2), int64(3), int64(4), int64(5), int64(6), int64(7), int64(8), int64(9), int64(10))
	got = all(int64(impl.LineNone), int64(impl.LineWord), int64(impl.LineArg), int64(impl.LineOpen), int64(impl.LineEnd), int64(impl.LineDeep))
	isResult(t, "faults", got, int64(0), int64(1), int64(2), int64(3), int64(4), int64(5))
	isResult(t, "limits", all(int64(impl.MaxProgram), int64(impl.MaxDepth), int64(impl.MaxRun)), int64(120), int64(4), int64(3000))
}

func TestValidProgram(t *testing.T) {
	for _, list := range somePrograms() {
		if !isProgram(list) || !impl.ValidProgram(list) {
			t.Errorf("%v is a program", list)
		}
	}
	for _, list := range noPrograms() {
		if isProgram(list) || impl.ValidProgram(list) {
			t.Errorf("%v is no program", list)
		}
	}
}

func TestNumbersOfInstructions(t *testing.T) {
	for op := int64(-2); op <= 12; op++ {
		for _, arg := range append([]int64{3, 50, 99, 100, 101}, oddNumbers...) {
			list := []impl.Instr{instr(op, arg)}
			if isLoop(list[0]) {
				list = append(list, instr(impl.OpEnd, 0))
			}
			if op == impl.OpEnd {
				list = append([]impl.Instr{instr(impl.OpBell, 0)}, list...)
			}
			isResult(t, fmt.Sprint(list), all(impl.ValidProgram(list)), isInstr(instr(op, arg)))
		}
	}
}

// checkShape checks what the functions say about the loops of a list.
func checkShape(t *testing.T, list []impl.Instr) {
	t.Helper()
	what := fmt.Sprint(list)
	if !isProgram(list) {
		isResult(t, what, all(impl.ValidProgram(list)), false)
		isResult(t, what, all(impl.DepthOfProgram(list)), int64(0), int64(impl.ErrInvalid))
		isResult(t, what, all(impl.MatchOf(list, 0)), int64(0), int64(impl.ErrInvalid))
		return
	}
	isResult(t, what, all(impl.ValidProgram(list)), true)
	isResult(t, what, all(impl.DepthOfProgram(list)), slices.Max(append(depths(list), 0)), int64(impl.OK))
	for at := -1; at <= len(list); at++ {
		got := all(impl.MatchOf(list, int64(at)))
		switch {
		case at < 0 || at == len(list):
			isResult(t, what, got, int64(0), int64(impl.ErrRange))
		case isLoop(list[at]):
			isResult(t, what, got, endOf(list, at), int64(impl.OK))
		default:
			isResult(t, what, got, int64(0), int64(impl.ErrState))
		}
	}
}

// shapes returns all lists of a length of some instructions.
func shapes(length int, from ...impl.Instr) [][]impl.Instr {
	lists := [][]impl.Instr{nil}
	for range length {
		var longer [][]impl.Instr
		for _, list := range lists {
			for _, in := range from {
				longer = append(longer, append(slices.Clone(list), in))
			}
		}
		lists = longer
	}
	return lists
}

func TestLoopsOfAllShortLists(t *testing.T) {
	for length := range 9 {
		for _, list := range shapes(length, instr(impl.OpTimes, 1), instr(impl.OpBell, 0), instr(impl.OpEnd, 0)) {
			checkShape(t, list)
		}
	}
	for length := range 13 {
		for _, list := range shapes(length, instr(impl.OpTimes, 100), instr(impl.OpEnd, 0)) {
			checkShape(t, list)
		}
	}
	for length := range 6 {
		for _, list := range shapes(length, instr(impl.OpBell, 0), instr(impl.OpEnd, 0), instr(impl.OpAdd, 2), instr(impl.OpClear, 0), instr(impl.OpSet, 7)) {
			checkShape(t, list)
		}
	}
}

func TestLoopsOfManyPrograms(t *testing.T) {
	random := rand.New(rand.NewSource(111))
	for _, list := range append(somePrograms(), noPrograms()...) {
		checkShape(t, list)
	}
	for range 500 {
		list := randomProgram(random, 1+random.Intn(30), random.Intn(6))
		checkShape(t, list)
		if len(list) > 0 {
			at := random.Intn(len(list))
			checkShape(t, slices.Delete(slices.Clone(list), at, at+1))
			checkShape(t, slices.Concat(list[:at], list[:1], list[at:]))
		}
	}
}

func TestMatchOf(t *testing.T) {
	list := program(t, "set 3, times 2, bell, sub, end, times 3, add, end, end, clear, bell, end")
	for at, want := range map[int64]int64{1: 8, 2: 4, 5: 7, 10: 11} {
		isResult(t, fmt.Sprint(at), purely(t, impl.MatchOf, list, at), want, int64(impl.OK))
	}
	for _, at := range []int64{0, 3, 4, 6, 7, 8, 9, 11} { // an end begins no loop
		isResult(t, fmt.Sprint(at), purely(t, impl.MatchOf, list, at), int64(0), int64(impl.ErrState))
	}
	for _, at := range []int64{-1, 12, 13, 119, 120, 121, 1 << 32, 1<<32 + 1, math.MaxInt64, math.MinInt64} {
		isResult(t, fmt.Sprint(at), purely(t, impl.MatchOf, list, at), int64(0), int64(impl.ErrRange))
	}
	for _, at := range []int64{-1, 0, 1} {
		isResult(t, fmt.Sprint(at), purely(t, impl.MatchOf, []impl.Instr{}, at), int64(0), int64(impl.ErrRange))
	}
	longest := nested(instr(impl.OpTimes, 2), 1, slices.Repeat([]impl.Instr{instr(impl.OpAdd, 1)}, 118)...)
	isResult(t, "the longest loop", purely(t, impl.MatchOf, longest, int64(0)), int64(119), int64(impl.OK))
}

func TestDepthOfProgram(t *testing.T) {
	for text, want := range map[string]int64{
		"": 0, "add": 0, "set 3, zero": 0, "bell, end": 1, "times 2, end, times 2, end, bell, end": 1, "times 2, end, bell, times 2, end, end, bell, end": 2, "bell, bell, end, bell, bell, end, end, end, add": 3,
		"times 2, times 2, times 2, times 2, end, end, end, end, bell, end": 4, "bell, times 1, bell, times 1, add, end, end, bell, add, end, end, end": 4,
	} {
		isResult(t, text, purely(t, impl.DepthOfProgram, program(t, text)), want, int64(impl.OK))
	}
}

// TestOtherListsAreRejected checks that ErrInvalid comes before all other errors.
func TestOtherListsAreRejected(t *testing.T) {
	invalid := int64(impl.ErrInvalid)
	m, bad := machine(t, "10:3 10:10 10:0 0"), invalidMachines()[0]
	for _, list := range noPrograms() {
		what := fmt.Sprint(list)
		isResult(t, what, all(impl.ProgramLines(list)), []string(nil), invalid)
		isResult(t, what, all(impl.DepthOfProgram(list)), int64(0), invalid)
		isResult(t, what, all(impl.FlatStrokes(list)), []int64(nil), invalid)
		for _, at := range []int64{-1, 0, 1, 1000, math.MaxInt64} {
			isResult(t, what, all(impl.MatchOf(list, at)), int64(0), invalid)
		}
		isResult(t, what, all(impl.RunProgram(m, list)), impl.Machine{}, int64(0), invalid)
		isResult(t, what, all(impl.TraceProgram(m, list)), []int64(nil), invalid)
		isResult(t, what, all(impl.RunProgram(bad, list)), impl.Machine{}, int64(0), invalid)
		isResult(t, what, all(impl.TraceProgram(bad, list)), []int64(nil), invalid)
	}
	for _, bad := range invalidMachines() {
		for _, text := range []string{"", "add", "set 1000000000000", "bell, end", "times 100, times 100, end, end"} { // also where it would halt
			isResult(t, text, all(impl.RunProgram(bad, program(t, text))), impl.Machine{}, int64(0), invalid)
			isResult(t, text, all(impl.TraceProgram(bad, program(t, text))), []int64(nil), invalid)
		}
	}
	behind := []impl.Instr{instr(impl.OpSet, 10), instr(impl.OpAdd, 1), instr(impl.OpEnd, 0)} // no program, though it would halt before its end
	isResult(t, "an end behind", all(impl.RunProgram(m, behind)), impl.Machine{}, int64(0), invalid)
	isResult(t, "an end behind", all(impl.FlatStrokes(behind)), []int64(nil), invalid)
}

func TestSameProgram(t *testing.T) {
	lists := [][]impl.Instr{
		{}, {{}}, {{}, {}}, {instr(0, 1)}, {instr(1, 0)}, {instr(1, 1)}, {instr(2, 1)}, {instr(1, 2)}, {instr(2, 1), instr(3, 1)}, {instr(3, 1), instr(2, 1)}, {instr(2, 1), instr(3, 2)}, {instr(2, 1), instr(3, 1), instr(10, 0)},
		{instr(-1, math.MinInt64)}, {instr(math.MaxInt64, -1)}, slices.Repeat([]impl.Instr{instr(2, 1)}, 120), slices.Repeat([]impl.Instr{instr(2, 1)}, 121), append(slices.Repeat([]impl.Instr{instr(2, 1)}, 120), instr(2, 2)),
	}
	for i, a := range lists {
		for j := range lists {
			b := append(slices.Clone(lists[j]), instr(9, 9))[:len(lists[j])]
			isResult(t, fmt.Sprint(i, j), purely(t, impl.SameProgram, a, b), i == j)
		}
	}
	isResult(t, "nil", all(impl.SameProgram(nil, nil), impl.SameProgram(nil, []impl.Instr{}), impl.SameProgram([]impl.Instr{}, nil), impl.SameProgram(nil, []impl.Instr{{}})), true, true, true, false)
}

func TestProgramLines(t *testing.T) {
	list := []impl.Instr{
		instr(impl.OpSet, 0), instr(impl.OpSet, 1), instr(impl.OpSet, impl.MaxValue), instr(impl.OpAdd, 1), instr(impl.OpAdd, 2), instr(impl.OpSub, 1), instr(impl.OpSub, 100), instr(impl.OpRight, 1), instr(impl.OpRight, 10),
		instr(impl.OpLeft, 1), instr(impl.OpLeft, 99), instr(impl.OpClear, 0), instr(impl.OpZero, 0), instr(impl.OpTimes, 1), instr(impl.OpTimes, 100), instr(impl.OpBell, 0), instr(impl.OpEnd, 0), instr(impl.OpEnd, 0), instr(impl.OpEnd, 0),
	}
	lines := []string{"set 0", "set 1", "set 1000000000000", "add", "add 2", "sub", "sub 100", "right", "right 10", "left", "left 99", "clear", "zero", "times 1", "times 100", "bell", "end", "end", "end"}
	isResult(t, "lines", purely(t, impl.ProgramLines, list), lines, int64(impl.OK))
	isResult(t, "lines", purely(t, impl.ReadProgram, lines), list, int64(impl.OK))
	for _, none := range [][]impl.Instr{nil, {}} {
		lines, code := impl.ProgramLines(none)
		isResult(t, "no lines", all(len(lines), code), 0, int64(impl.OK))
	}
	for _, none := range [][]string{nil, {}} {
		list, code := impl.ReadProgram(none)
		isResult(t, "no instructions", all(len(list), code), 0, int64(impl.OK))
		isResult(t, "no lines", all(impl.CheckProgram(none)), int64(-1), int64(impl.LineNone), int64(impl.OK))
	}
}

// checkLine checks a line as the only one, or as the beginning or the end of a loop.
func checkLine(t *testing.T, line string) {
	t.Helper()
	in, fault := instrOf(line)
	lines, at := []string{line}, int64(0)
	if isLoop(in) {
		lines = []string{line, "end"}
	}
	if in.Op == impl.OpEnd {
		lines, at = []string{"bell", line}, 1
	}
	list, code := impl.ReadProgram(lines)
	if fault != impl.LineNone {
		isResult(t, line, all(list, code), []impl.Instr(nil), int64(impl.ErrSyntax))
		isResult(t, line, all(impl.CheckProgram(lines)), at, fault, int64(impl.OK))
		return
	}
	isResult(t, line, all(len(list), code), len(lines), int64(impl.OK))
	isResult(t, line, all(list[at]), in)
	isResult(t, line, all(impl.CheckProgram(lines)), int64(-1), int64(impl.LineNone), int64(impl.OK))
	isResult(t, line, all(impl.ProgramLines(list)), lines, int64(impl.OK))
}

// TestAllLines checks all words with all numbers about the limits, and lines that are about the same.
func TestAllLines(t *testing.T) {
	words := []string{"set", "add", "sub", "right", "left", "clear", "zero", "times", "bell", "end", "", "turn", "Add", "addd", "ad", "stop", "ends", "none", "add2", "set\t", "\xff", "number"}
	numbers := []string{
		"", " ", "  ", " 00", " 01", " -1", " -0", " +1", " 1 ", "  1", " 1 1", " x", " 1x", "\t1", " 1\n", "\n", " 1.0", " 1e1", " 0x1", " 1_0", " ١", " 100 ", "\u00a01", " \u00a01", "1", "-1", " 1000000000000", " 1000000000001", " 999999999999", " 0999999999999",
		" 9223372036854775807", " 9223372036854775808", " 18446744073709551617", " 4294967297", " 999999999999999999", " 1000000000000000000", " " + strings.Repeat("9", 400), " " + strings.Repeat("0", 400), strings.Repeat(" ", 400), " \xff", " 1\x00",
	}
	for n := -3; n <= 130; n++ {
		numbers = append(numbers, " "+strconv.Itoa(n), " 0"+strconv.Itoa(n))
	}
	for _, word := range words {
		for _, number := range numbers {
			checkLine(t, word+number)
			checkLine(t, " "+word+number)
		}
	}
	for line := range otherOwnLines {
		checkLine(t, line)
		checkLine(t, strings.ToUpper(line))
		checkLine(t, line+" ")
	}
	for _, s := range oddTexts {
		checkLine(t, s)
		checkLine(t, "set "+s)
		checkLine(t, "left "+s)
	}
}

func TestCheckProgram(t *testing.T) {
	for _, c := range []struct {
		lines     string
		at, fault int64
	}{
		{"", -1, impl.LineNone}, {"set 3, times 2, add 2, right, end", -1, impl.LineNone}, {"bell, sub, end, add", -1, impl.LineNone},
		{"turn", 0, impl.LineWord}, {"add, turn, set", 1, impl.LineWord}, {"set, turn", 0, impl.LineArg}, {"turn 2", 0, impl.LineWord}, {"ADD", 0, impl.LineWord}, {" add", 0, impl.LineWord}, {"add\t2", 0, impl.LineWord}, {"turn end", 0, impl.LineWord},
		{"add 1", 0, impl.LineArg}, {"add 0", 0, impl.LineArg}, {"add 101", 0, impl.LineArg}, {"add ", 0, impl.LineArg}, {"add  2", 0, impl.LineArg}, {"add 2 ", 0, impl.LineArg}, {"add 02", 0, impl.LineArg}, {"add x", 0, impl.LineArg}, {"add -1", 0, impl.LineArg},
		{"set", 0, impl.LineArg}, {"set ", 0, impl.LineArg}, {"set -1", 0, impl.LineArg}, {"set 1000000000001", 0, impl.LineArg}, {"set 00", 0, impl.LineArg}, {"times", 0, impl.LineArg}, {"times 0", 0, impl.LineArg}, {"times 101", 0, impl.LineArg},
		{"clear 2", 0, impl.LineArg}, {"clear 0", 0, impl.LineArg}, {"zero 1", 0, impl.LineArg}, {"zero ", 0, impl.LineArg}, {"bell 1", 0, impl.LineArg}, {"bell 0", 0, impl.LineArg}, {"bell, end 0", 1, impl.LineArg}, {"end 1", 0, impl.LineArg}, {"end ", 0, impl.LineArg},
		{"end", 0, impl.LineEnd}, {"add, end", 1, impl.LineEnd}, {"bell, end, end", 2, impl.LineEnd}, {"end, turn", 0, impl.LineEnd}, {"end, bell", 0, impl.LineEnd}, {"times 2, end, add, end, bell", 3, impl.LineEnd}, {"turn, end", 0, impl.LineWord},
		{"bell", 1, impl.LineOpen}, {"bell, sub", 2, impl.LineOpen}, {"times 2, bell, end", 3, impl.LineOpen}, {"bell, end, times 2, add, add", 5, impl.LineOpen}, {"bell, turn", 1, impl.LineWord}, {"bell, set", 1, impl.LineArg}, {"bell, bell, bell, bell", 4, impl.LineOpen},
		{"bell, bell, bell, bell, bell", 4, impl.LineDeep}, {"times 2, bell, times 2, bell, times 2, end, end, end, end, end", 4, impl.LineDeep}, {"bell, bell, bell, bell, add, times 3", 5, impl.LineDeep}, {"bell, bell, bell, bell, end, bell, times 3", 6, impl.LineDeep},
		{"bell, bell, bell, bell, bell, turn", 4, impl.LineDeep}, {"bell, bell, bell, bell, times 0", 4, impl.LineArg}, {"bell, bell, bell, bell, bell 1", 4, impl.LineArg}, {"bell, bell, bell, bell, bells", 4, impl.LineWord}, {"bell, bell, bell, bell, add 1, bell", 4, impl.LineArg},
		{"bell, bell, bell, bell, end, end, end, end, times 2, times 2, times 2, times 2, end, end, end, end", -1, impl.LineNone}, {"bell, bell, bell, bell, end, end, end, end, end", 8, impl.LineEnd},
	} {
		lines := linesOf(c.lines)
		isResult(t, c.lines, purely(t, impl.CheckProgram, lines), c.at, c.fault, int64(impl.OK))
		list, code := impl.ReadProgram(lines)
		if c.fault != impl.LineNone {
			isResult(t, c.lines, all(list, code), []impl.Instr(nil), int64(impl.ErrSyntax))
		} else {
			isResult(t, c.lines, all(len(list), code), len(lines), int64(impl.OK))
		}
	}
	isResult(t, "no text", all(impl.CheckProgram([]string{""})), int64(0), int64(impl.LineWord), int64(impl.OK))
}

func TestTooManyLinesAreRejected(t *testing.T) {
	for _, line := range []string{"add", "turn", "", "bell", "end", "set"} { // ErrFull comes before all faults
		for _, count := range []int{121, 122, 240, 1000} {
			lines := slices.Repeat([]string{line}, count)
			isResult(t, line, purely(t, impl.CheckProgram, lines), int64(0), int64(0), int64(impl.ErrFull))
			isResult(t, line, purely(t, impl.ReadProgram, lines), []impl.Instr(nil), int64(impl.ErrFull))
		}
	}
	lines := slices.Repeat([]string{"add"}, 120)
	isResult(t, "120 lines", all(impl.CheckProgram(lines)), int64(-1), int64(impl.LineNone), int64(impl.OK))
	isResult(t, "120 lines", all(impl.ReadProgram(lines)), slices.Repeat([]impl.Instr{instr(impl.OpAdd, 1)}, 120), int64(impl.OK))
	for line, fault := range map[string]int64{"turn": impl.LineWord, "set": impl.LineArg, "end": impl.LineEnd, "bell": impl.LineOpen} {
		lines[119] = line
		at := int64(119)
		if fault == impl.LineOpen {
			at = 120
		}
		isResult(t, line, all(impl.CheckProgram(lines)), at, fault, int64(impl.OK))
		isResult(t, line, all(impl.ReadProgram(lines)), []impl.Instr(nil), int64(impl.ErrSyntax))
	}
}

// checkLines checks lines against those that are read with a table of all lines.
func checkLines(t *testing.T, lines []string) {
	t.Helper()
	list, at, fault := linesRead(lines)
	what := strings.Join(lines, ", ")
	isResult(t, what, all(impl.CheckProgram(lines)), at, fault, int64(impl.OK))
	got, code := impl.ReadProgram(lines)
	if fault != impl.LineNone {
		isResult(t, what, all(got, code), []impl.Instr(nil), int64(impl.ErrSyntax))
		return
	}
	isResult(t, what, all(slices.Equal(got, list), code), true, int64(impl.OK))
}

func TestFaultsOfAllShortTexts(t *testing.T) {
	words := []string{"add", "times 2", "bell", "end", "turn", "add 1"}
	lists := [][]string{nil}
	for range 6 {
		var longer [][]string
		for _, lines := range lists {
			checkLines(t, lines)
			for _, word := range words {
				longer = append(longer, append(slices.Clone(lines), word))
			}
		}
		lists = longer
	}
}

func TestFaultsOfManyTexts(t *testing.T) {
	random := rand.New(rand.NewSource(112))
	others := []string{"end", "bell", "times 3", "set 5", "left", "turn", "right 0", "", "zero 0", "times 1 "}
	for range 3000 {
		lines, code := impl.ProgramLines(randomProgram(random, 1+random.Intn(30), random.Intn(5)))
		if code != impl.OK {
			t.Fatal(code)
		}
		checkLines(t, lines)
		for range 3 {
			if len(lines) > 0 {
				lines[random.Intn(len(lines))] = others[random.Intn(len(others))]
				checkLines(t, lines)
			}
		}
	}
}

func TestPromise11ProgramsAreReadBack(t *testing.T) {
	random := rand.New(rand.NewSource(113))
	lists := somePrograms()
	for range 2000 {
		list := randomProgram(random, 1+random.Intn(40), random.Intn(5))
		for i, in := range list {
			switch {
			case in.Op == impl.OpSet:
				list[i].Arg = random.Int63n(impl.MaxValue + 1)
			case in.Arg > 0:
				list[i].Arg = 1 + random.Int63n(100)
			}
		}
		lists = append(lists, list)
	}
	for _, list := range lists {
		lines, code := impl.ProgramLines(list)
		isResult(t, fmt.Sprint(list), all(len(lines), code), len(list), int64(impl.OK))
		isResult(t, fmt.Sprint(list), all(impl.CheckProgram(lines)), int64(-1), int64(impl.LineNone), int64(impl.OK))
		back, code := impl.ReadProgram(lines)
		isResult(t, fmt.Sprint(list), all(impl.SameProgram(back, list), code), true, int64(impl.OK))
	}
}

func TestLineFaultName(t *testing.T) {
	for kind, want := range map[int64]string{0: "none", 1: "word", 2: "number", 3: "open", 4: "end", 5: "deep"} {
		isResult(t, want, purely(t, impl.LineFaultName, kind), want)
	}
	for _, kind := range []int64{-1, 6, 7, 255, 256, 1 << 32, 1<<32 + 1, -5, math.MaxInt64, math.MinInt64} {
		isResult(t, fmt.Sprint(kind), purely(t, impl.LineFaultName, kind), "")
	}
}

// TestRunProgram has programs with few strokes, told by their names.
func TestRunProgram(t *testing.T) {
	for _, c := range []struct {
		from, lines, want, strokes string
	}{
		{"10:12 10:0000 10:000 0", "", "10:12 10:0000 10:000 0", ""},
		{"10:00 10:0000 10:000 0", "set 3, times 2, add 2, right, end", "10:03 10:0066 10:022 2", "add add right add add right"},
		{"10:00 10:0000 10:000 0", "set 98, right 2, add, left 2, sub 2", "10:98 10:9604 10:098 0", "right right add left left sub sub"},
		{"10:12 10:0034 10:005 1", "add, sub, right, left, clear, zero", "10:00 10:0000 10:000 1", "add sub right left clear zero"},
		{"10:12 10:0034 10:005 1", "set 7, set 99, set 0", "10:00 10:0034 10:005 1", ""},
		{"10:12 10:0034 10:005 1", "set 7, clear", "10:07 10:0000 10:000 1", "clear"},
		{"10:12 10:0034 10:005 1", "times 1, set 7, end", "10:07 10:0034 10:005 1", ""},
		{"10:12 10:0034 10:005 1", "times 5, end", "10:12 10:0034 10:005 1", ""},
		{"10:12 10:0000 10:000 0", "times 3, add, end", "10:12 10:0036 10:003 0", "add add add"},
		{"10:12 10:0000 10:000 0", "times 2, add, times 2, sub, end, end", "10:12 10:9976 10:998 0", "add sub sub add sub sub"},
		// The bell changes nothing outside of the loops that wait for it.
		{"10:3 10:01 10:0 0", "sub 3, add", "10:3 10:95 10:8 0", "sub sub sub add"},
		{"10:3 10:00 10:00 0", "right 3, add, left 3, add", "10:3 10:33 10:11 0", "right right right add left left left add"},
		{"10:3 10:01 10:0 0", "times 2, sub 2, end", "10:3 10:89 10:6 0", "sub sub sub sub"},
		{"10:0 10:99 10:9 0", "times 3, left, end, add", "10:0 10:99 10:0 0", "left left left add"},
	} {
		checkToldRun(t, c.from, c.lines, c.want, c.strokes)
	}
}

// checkToldRun checks a program on a machine against the machine and the names of the strokes that are told.
func checkToldRun(t *testing.T, from, lines, want, strokes string) {
	t.Helper()
	m, list := machine(t, from), program(t, lines)
	what := from + ": " + lines
	names := strings.Fields(strokes)
	isResult(t, what, purely(t, impl.RunProgram, m, list), machine(t, want), int64(len(names)), int64(impl.OK))
	trace := purely(t, impl.TraceProgram, m, list)
	isResult(t, what, trace[1:], int64(impl.OK))
	var got []string
	for _, kind := range trace[0].([]int64) {
		got = append(got, impl.StrokeName(kind))
	}
	isResult(t, what, all(strings.Join(got, " ")), strings.Join(names, " "))
}

func TestBellsOfLoops(t *testing.T) {
	for _, c := range []struct {
		from, lines, want, strokes string
	}{
		{"10:3 10:10 10:0 0", "bell, sub, end, add", "10:3 10:01 10:7 0", "sub sub sub sub add"},
		{"10:3 10:00 10:0 0", "bell, sub, end", "10:3 10:97 10:9 0", "sub"}, // there is one round at least
		{"10:3 10:00 10:00 0", "bell, right, end", "10:3 10:00 10:00 1", "right right"},
		{"10:3 10:00 10:00 1", "bell, left, end, bell, right, end", "10:3 10:00 10:00 1", "left left right right"}, // each loop waits for its own bell
		{"10:3 10:97 10:0 0", "bell, add, end, bell, sub, end", "10:3 10:97 10:0 0", "add sub"},
		// A round is completed, wherever the bell rings in it.
		{"10:3 10:04 10:0 0", "bell, sub, clear, end", "10:3 10:97 10:9 0", ""},
		{"10:3 10:01 10:0 0", "bell, sub, clear, add 2, end", "10:3 10:06 10:2 0", "sub clear add add"},
		{"10:3 10:01 10:0 0", "bell, sub 4, end", "10:3 10:89 10:6 0", "sub sub sub sub"},
		{"10:3 10:07 10:0 0", "bell, sub 2, end", "10:3 10:95 10:6 0", "sub sub sub sub"},
		{"10:3 10:00 10:00 0", "bell, left, right, left, end", "10:3 10:00 10:00 0", "left right left"},
		{"10:3 10:10 10:0 0", "bell, set 5, sub, set 4, end", "10:4 10:95 10:7 0", "sub sub sub"},
		{"10:3 10:00 10:00 0", "bell, left, times 2, add, end, end", "10:3 10:06 10:02 0", "left add add"},
		// Strokes in a loop within do not belong to the loop outside.
		{"10:3 10:00 10:00 0", "bell, times 2, left, end, right 2, end", "10:3 10:00 10:00 1", "left left right right"},
		{"10:3 10:00 10:00 0", "bell, times 1, sub, end, right, end", "10:3 10:94 10:98 1", ""},
		{"10:3 10:10 10:00 0", "bell, bell, sub, end, times 1, add, end, right, end", "10:3 10:71 10:67 1", ""},
		{"10:3 10:00 10:00 0", "bell, left, bell, right, end, end", "10:3 10:00 10:00 1", "left right right"}, // it rings outside before it rings inside
		{"10:3 10:00 10:00 1", "bell, bell, left, end, right 2, end", "10:3 10:00 10:00 1", "left left right right"},
		{"10:3 10:00 10:000 0", "bell, left, bell, right, end, left, end", "10:3 10:00 10:000 0", "left right right left"},
		{"10:3 10:00 10:00 0", "bell, times 1, left, end, times 1, left, end, left, end", "10:3 10:00 10:00 0", "left left left"},
		// A loop within begins without a bell, in each round of the one outside.
		{"10:3 10:10 10:0 0", "times 2, bell, sub, end, add, end", "10:3 10:01 10:7 0", "sub sub sub sub add sub add"},
		{"10:3 10:00 10:000 0", "times 2, bell, right, end, bell, left, end, end", "10:3 10:00 10:000 0", "right right left left right right left left"},
		{"10:3 10:00 10:00 0", "times 2, left, bell, right, end, end", "10:3 10:00 10:00 0", ""},
		{"2:1 2:0 2:0 0", "bell, bell, bell, bell, add, end, sub, end, sub 2, end, left, end", "2:1 2:1 2:1 0", ""},
		{"10:4 10:09 10:10 0", "times 2, times 2, bell, times 2, sub, end, sub, end, add, end, end", "10:4 10:61 10:97 0", ""},
	} {
		if c.strokes != "" {
			checkToldRun(t, c.from, c.lines, c.want, c.strokes)
		}
		m, list := machine(t, c.from), program(t, c.lines)
		isResult(t, c.from+": "+c.lines, all(impl.RunProgram(m, list)), programRun(m, list).asRun()...)
	}
}

// TestLoopsWithoutBellEnd has loops in which the bell never rings, or only in loops within them.
func TestLoopsWithoutBellEnd(t *testing.T) {
	for _, lines := range []string{
		"bell, end", "bell, clear, end", "bell, zero, end", "bell, bell, end, end", "bell, bell, bell, bell, end, end, end, end", "bell, times 3, end, end", "bell, set 1, end", "bell, add, sub, end",
		"bell, times 1, left, end, end", "bell, bell, left, end, end", "bell, times 100, left 2, end, end", "bell, left, times 1, bell, clear, end, end, end", "left, bell, clear, end", "bell, left, end, bell, clear, end",
	} {
		for _, from := range []string{"10:3 10:10 10:0 0", "2:0 2:00 2:00 0", "10:3 10:50 10:00 0"} {
			what := from + ": " + lines
			isResult(t, what, purely(t, impl.RunProgram, machine(t, from), program(t, lines)), impl.Machine{}, int64(0), int64(impl.ErrFull))
			isResult(t, what, purely(t, impl.TraceProgram, machine(t, from), program(t, lines)), []int64(nil), int64(impl.ErrFull))
		}
	}
}

// TestMaxRun has programs that reach the limit exactly, or go beyond it by one.
func TestMaxRun(t *testing.T) {
	m := machine(t, "10:3 10:10 10:0 0")
	hundreds := func(count int) string { return strings.Repeat("add 100, ", count) }
	for _, c := range []struct {
		lines   string
		strokes int64
		code    int64
	}{
		{hundreds(29) + "add 100", 3000, impl.OK}, {hundreds(30) + "add", 0, impl.ErrFull}, {hundreds(30) + "clear", 0, impl.ErrFull}, {hundreds(30) + "zero", 0, impl.ErrFull}, {hundreds(30) + "left 100", 0, impl.ErrFull},
		{hundreds(29) + "add 99, clear", 3000, impl.OK}, {hundreds(29) + "add 99, zero", 3000, impl.OK}, {hundreds(29) + "add 99, sub 2", 0, impl.ErrFull},
		{hundreds(29) + "add 99, set 5", 2999, impl.OK}, {hundreds(29) + "add 99, set 5, set 6", 0, impl.ErrFull}, {hundreds(29) + "add 99, set 5, add", 0, impl.ErrFull}, {hundreds(30) + "set 5", 0, impl.ErrFull},
		{hundreds(29) + "add 99, times 1, end", 2999, impl.OK}, {hundreds(30) + "times 1, end", 0, impl.ErrFull}, {hundreds(29) + "add 99, times 2, end", 0, impl.ErrFull}, {hundreds(29) + "add 98, times 2, end", 2998, impl.OK},
		{hundreds(29) + "add 99, bell, end", 0, impl.ErrFull}, {hundreds(29) + "add 98, bell, left, end", 2999, impl.OK}, {hundreds(29) + "add 99, bell, left, end", 0, impl.ErrFull}, {hundreds(29) + "add 97, bell, left, end, set 0", 2998, impl.OK},
		{"times 30, add 99, end", 2970, impl.OK}, {"times 30, add 99, end, add", 0, impl.ErrFull}, {"times 30, add 99, end, set 5", 0, impl.ErrFull}, {"times 30, add 99, end, times 1, end", 0, impl.ErrFull}, {"times 30, add 100, end", 0, impl.ErrFull},
		{"times 60, clear, sub 48, end", 2940, impl.OK}, {"times 100, left 29, end", 2900, impl.OK}, {"times 100, left 30, end", 0, impl.ErrFull}, {"times 100, set 5, left 28, end", 2800, impl.OK}, {"times 100, set 5, left 29, end", 0, impl.ErrFull},
		{"times 100, times 29, end, end", 0, impl.OK}, {"times 100, times 30, end, end", 0, impl.ErrFull}, {"times 100, times 29, end, end, clear", 0, impl.ErrFull}, {"times 50, times 29, set 5, end, end, add 50", 50, impl.OK}, {"times 50, times 29, set 5, end, end, add 51", 0, impl.ErrFull},
		{"times 100, bell, left, end, times 27, end, end", 100, impl.OK}, {"times 100, bell, left, end, times 28, end, end", 0, impl.ErrFull}, {"times 100, times 100, times 100, times 100, end, end, end, end", 0, impl.ErrFull},
		{"times 10, times 10, times 10, add, end, end, end, times 10, add 86, end, times 20, end", 1860, impl.OK}, {"times 10, times 10, times 10, add, end, end, end, times 10, add 86, end, times 21, end", 0, impl.ErrFull},
	} {
		list := program(t, c.lines)
		after, strokes, code := impl.RunProgram(m, list)
		isResult(t, c.lines, all(strokes, code, impl.ValidMachine(after)), c.strokes, c.code, c.code == impl.OK)
		isResult(t, c.lines, all(after, strokes, code), programRun(m, list).asRun()...)
		trace, code := impl.TraceProgram(m, list)
		isResult(t, c.lines, all(int64(len(trace)), code), c.strokes, c.code)
		isResult(t, c.lines, all(trace, code), programRun(m, list).asTrace()...)
	}
}

// TestWhatHaltsFirst has programs that go beyond the limit, and have a number that does not fit.
func TestWhatHaltsFirst(t *testing.T) {
	m := machine(t, "10:03 10:0010 10:00 0")
	most := strings.Repeat("add 100, ", 29)
	for lines, want := range map[string]int64{
		"set 99": impl.OK, "set 100": impl.ErrJam, "set 1000000000000": impl.ErrJam, "add, set 100, sub": impl.ErrJam, "set 5, set 100": impl.ErrJam, "times 2, set 100, end": impl.ErrJam, "bell, add, set 100, end": impl.ErrJam,
		"times 2, bell, times 3, set 100, end, end, end": impl.ErrJam, "bell, end, set 100": impl.ErrFull, "set 100, bell, end": impl.ErrJam, "bell, sub, end, set 100": impl.ErrJam, "zero, set 100": impl.ErrJam,
		most + "add 99, set 100": impl.ErrJam, most + "add 100, set 100": impl.ErrFull, most + "add 100, set 99": impl.ErrFull, most + "add 99, set 99, set 100": impl.ErrFull, most + "add 98, set 99, set 100": impl.ErrJam,
		most + "add 98, times 1, set 100, end": impl.ErrJam, most + "add 99, times 1, set 100, end": impl.ErrFull, most + "add 99, bell, set 100, end": impl.ErrFull, // the round is begun before
		"times 100, add 28, end, add 98, times 1, set 100, end": impl.ErrJam, "times 100, add 29, end, set 100": impl.ErrFull, "times 100, add 28, end, add 99, set 100": impl.ErrJam, "times 100, times 29, end, end, set 100": impl.ErrFull,
	} {
		list := program(t, lines)
		_, _, code := impl.RunProgram(m, list)
		isResult(t, lines, all(code), want)
		if want != impl.OK {
			isResult(t, lines, purely(t, impl.RunProgram, m, list), impl.Machine{}, int64(0), want)
			isResult(t, lines, purely(t, impl.TraceProgram, m, list), []int64(nil), want)
		}
	}
}

// TestSettingsOfAllShapes sets the greatest value that fits, and the next one.
func TestSettingsOfAllShapes(t *testing.T) {
	for _, m := range someMachines() {
		s := machineShapeOf(m)
		count := s.values(s.setting).Int64()
		for _, value := range []int64{0, 1, count - 1, count, impl.MaxValue} {
			list := []impl.Instr{instr(impl.OpSet, value), instr(impl.OpAdd, 1)}
			if value > impl.MaxValue {
				continue
			}
			isResult(t, fmt.Sprint(m, value), all(impl.RunProgram(m, list)), programRun(m, list).asRun()...)
		}
	}
}

// checkRun checks a program on a machine against one that runs as a flat list, and reports whether it comes to its end.
func checkRun(t *testing.T, m impl.Machine, list []impl.Instr) bool {
	t.Helper()
	want := programRun(m, list)
	what := fmt.Sprint(impl.MachineText(m), list)
	isResult(t, what, all(impl.RunProgram(m, list)), want.asRun()...)
	isResult(t, what, all(impl.TraceProgram(m, list)), want.asTrace()...)
	return want.code == impl.OK
}

func TestRunsOfAllShortPrograms(t *testing.T) {
	m := machine(t, "3:1 3:01 3:20 0")
	some := []impl.Instr{instr(impl.OpSub, 2), instr(impl.OpRight, 1), instr(impl.OpLeft, 1), instr(impl.OpAdd, 1), instr(impl.OpSet, 2), instr(impl.OpTimes, 2), instr(impl.OpBell, 0), instr(impl.OpEnd, 0)}
	for length := range 6 {
		for _, list := range shapes(length, some...) {
			if isProgram(list) {
				checkRun(t, m, list)
			}
		}
	}
}

// TestRunsOfBells runs all programs of bells, their ends and strokes that make bells ring on one side.
func TestRunsOfBells(t *testing.T) {
	m := machine(t, "3:1 3:01 3:20 0")
	some := []impl.Instr{instr(impl.OpRight, 1), instr(impl.OpLeft, 1), instr(impl.OpBell, 0), instr(impl.OpEnd, 0)}
	for _, list := range slices.Concat(shapes(6, some...), shapes(7, some...)) {
		if isProgram(list) && list[0].Op == impl.OpBell {
			checkRun(t, m, list)
		}
	}
}

func TestRunsOfManyPrograms(t *testing.T) {
	random := rand.New(rand.NewSource(114))
	machines := machinesForPrograms(t)
	for i, list := range somePrograms() {
		checkRun(t, machines[i%len(machines)], list)
	}
	done := 0
	for i := range 3000 {
		if checkRun(t, machines[i%len(machines)], randomProgram(random, 1+random.Intn(12), random.Intn(5))) {
			done++
		}
	}
	if done < 1500 {
		t.Errorf("only %d of 3000 programs come to their end", done)
	}
}

func TestRunsOnMachinesOfManyShapes(t *testing.T) {
	random := rand.New(rand.NewSource(115))
	for _, s := range someMachineShapes() {
		machines := s.machines(random, random.Int63n(s.places()))
		checkRun(t, machines[random.Intn(len(machines))], randomProgram(random, 1+random.Intn(10), random.Intn(5)))
	}
}

// TestPromise11StrokesAreMade makes the strokes that are told one after the other, without the program.
func TestPromise11StrokesAreMade(t *testing.T) {
	random := rand.New(rand.NewSource(116))
	machines := machinesForPrograms(t)
	told := 0
	for i := range 4000 {
		list := slices.DeleteFunc(randomProgram(random, 1+random.Intn(12), random.Intn(5)), func(in impl.Instr) bool { return in.Op == impl.OpSet })
		m := machines[i%len(machines)]
		strokes, code := impl.TraceProgram(m, list)
		after, count, runCode := impl.RunProgram(m, list)
		isResult(t, fmt.Sprint(list), all(count, runCode), int64(len(strokes)), code)
		if code != impl.OK {
			continue
		}
		told += len(strokes)
		for _, kind := range strokes {
			m, _, _ = impl.DoStroke(m, kind)
		}
		isResult(t, fmt.Sprint(list), all(after), m)
	}
	if told == 0 {
		t.Error("no strokes")
	}
}

func TestFlatStrokes(t *testing.T) {
	for lines, want := range map[string]string{
		"": "", "add": "add", "add 3, sub 2": "add add add sub sub", "right 2, left, clear, zero": "right right left clear zero", "times 2, end": "", "times 2, add, end": "add add", "times 2, add 2, right, end": "add add right add add right",
		"times 2, times 3, sub, end, clear, end, left": "sub sub sub clear sub sub sub clear left", "times 2, times 3, end, zero, end": "zero zero", "times 2, add, times 2, times 2, left, end, sub, end, end, add": "add left left sub left left sub add left left sub left left sub add",
	} {
		got := purely(t, impl.FlatStrokes, program(t, lines))
		isResult(t, lines, got[1:], int64(impl.OK))
		var names []string
		for _, kind := range got[0].([]int64) {
			names = append(names, impl.StrokeName(kind))
		}
		isResult(t, lines, all(strings.Join(names, " ")), want)
	}
	for _, lines := range []string{
		"set 3", "bell, end", "bell, add, end", "add, set 3", "times 2, set 3, end", "times 2, bell, end, end", "add, add, bell, sub, end", "set 3, bell, sub, end",
		"times 100, add 100, end, set 3", "times 100, add 100, bell, end, end", strings.Repeat("add 100, ", 31) + "set 3", // ErrState comes before ErrFull
	} {
		isResult(t, lines, purely(t, impl.FlatStrokes, program(t, lines)), []int64(nil), int64(impl.ErrState))
	}
}

// TestFlatStrokesUpToTheLimit has flat programs that reach the limit exactly, or go beyond it by one.
// Rounds do not count, even if there are so many of them that they cannot be made one after the other.
func TestFlatStrokesUpToTheLimit(t *testing.T) {
	hundreds := strings.Repeat("add 100, ", 30)
	deep := func(within string) string {
		return "times 100, times 100, times 100, times 100, " + within + "end, end, end, end"
	}
	empty := strings.Repeat("times 100, end, ", 50)
	for lines, want := range map[string]int{
		hundreds + "times 5, end": 3000, "times 1, times 30, add 100, end, end": 3000, "times 2, times 30, add 100, end, end": -1, "times 2, times 15, add 100, end, end": 3000, hundreds + "add": -1, "times 30, add 100, end": 3000, "times 31, add 100, end": -1, "times 30, add 100, end, zero": -1, "zero, times 30, add 100, end": -1, "times 100, add 30, end": 3000, "times 100, add 31, end": -1,
		"times 100, times 10, add 3, end, end": 3000, "times 100, times 10, add 3, end, end, add": -1, "times 50, times 2, times 30, add, end, end, end": 3000, "times 50, times 2, times 31, add, end, end, end": -1, "times 60, add 25, clear, sub 24, end": 3000,
		"times 60, add 25, clear, sub 25, end": -1, "times 3, times 10, add 99, end, times 10, add, end, end": 3000, "times 3, times 10, add 99, end, times 10, add, end, clear, end": -1, "times 100, add 100, end": -1, "times 30, add 99, end, add 30": 3000,
		deep(""): 0, deep("add, "): -1, deep("") + ", add 100": 100, hundreds + deep(""): 3000, hundreds + deep("") + ", add": -1, "times 100, times 100, times 100, " + empty + "end, end, end": 0, "times 100, times 100, times 100, " + empty + "add, end, end, end": -1,
		"times 100, times 29, end, add 30, end": 3000, "times 1, times 1, times 1, times 1, add 100, end, end, end, end": 100, deep("add 100, sub 100, "): -1, deep("clear, zero, "): -1,
	} {
		got := purely(t, impl.FlatStrokes, program(t, lines))
		if want < 0 {
			isResult(t, lines, got, []int64(nil), int64(impl.ErrFull))
		} else {
			isResult(t, lines, all(len(got[0].([]int64)), got[1]), want, int64(impl.OK))
		}
	}
}

// TestFlatStrokesAreMadeOnAllMachines compares the strokes that do not depend on the machine with those that are made on some.
func TestFlatStrokesAreMadeOnAllMachines(t *testing.T) {
	random := rand.New(rand.NewSource(117))
	machines := machinesForPrograms(t)
	for i := range 2000 {
		list := slices.DeleteFunc(randomProgram(random, 1+random.Intn(12), random.Intn(5)), func(in impl.Instr) bool { return in.Op == impl.OpSet })
		for k, in := range list {
			if in.Op == impl.OpBell {
				list[k] = instr(impl.OpTimes, 1+random.Int63n(5))
			}
		}
		want, code := impl.TraceProgram(machines[i%len(machines)], list)
		if code == impl.OK {
			isResult(t, fmt.Sprint(list), all(impl.FlatStrokes(list)), want, int64(impl.OK))
		}
	}
}

// TestExamplesOfPrograms is the example of the document, and divisions by it.
func TestExamplesOfPrograms(t *testing.T) {
	divide := program(t, "bell, sub, end, add")
	for dividend := int64(0); dividend < 100; dividend++ {
		for divisor := int64(1); divisor < 10; divisor++ {
			m, _ := impl.NewMachine(10, 1, 2, 3)
			m, _ = impl.SetValue(m, divisor)
			m.Result, _ = impl.NewRegister(10, 2, dividend)
			after, strokes, code := impl.RunProgram(m, divide)
			rest, _ := impl.ValueOf(after.Result)
			turns, _ := impl.ValueOf(after.Count)
			quotient := (1000 - turns) % 1000
			isResult(t, fmt.Sprint(dividend, divisor), all(quotient, rest, strokes, code), dividend/divisor, dividend%divisor, dividend/divisor+2, int64(impl.OK))
		}
	}
}
