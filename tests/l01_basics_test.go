package tests

import (
	"math"
	"slices"
	"strconv"
	"strings"
	"testing"

	"loop.example/g00930/impl"
)

// oddNumbers are ordinary numbers, limits and extremes.
var oddNumbers = []int64{
	0, 1, -1, 2, 9, 10, 11, 12, 15, 16, 17, -16, -17, 42, 1000,
	impl.MaxValue - 1, impl.MaxValue, impl.MaxValue + 1, -impl.MaxValue,
	999999999999999999, 1000000000000000000, -999999999999999999, -1000000000000000000,
	math.MaxInt32, math.MinInt32, math.MaxInt64, math.MinInt64, math.MinInt64 + 1,
}

// oddTexts are ordinary texts and such as no function should stumble over.
var oddTexts = []string{
	"", " ", "  ", "0", "-", "-0", "-1", "+1", "01", "12", "1e3", "0x1f", "1_000", "٣", "１２", " 1", "1 ", "1\n",
	"a", "a-1", "-a", "wheel-3", "Wheel", "räder", "abcdefghijkl", "abcdefghijklm",
	":", "10:", ":1", "10:0073", "10:a", "16:0af", "16:0AF", "2:102", "010:1", "+10:1", "17:1", "1:0", "10:1:1", "10:1 ", "10:é",
	"10:1\xff", "\xff\xfe", "a\x00b", "\t", "a\tb", "a\u00a0b", "a\u3000b", "\u2028",
	"999999999999999999", "1000000000000000000", "9223372036854775808", "-9223372036854775808",
	strings.Repeat("9", 400), strings.Repeat(" a", 300), strings.Repeat(":", 50), "16:" + strings.Repeat("f", 16), "2:" + strings.Repeat("0", 17),
}

func TestPromise1Basics(t *testing.T) {
	for _, n := range oddNumbers {
		purely(t, impl.CodeName, n)
		purely(t, impl.Decimal, n)
	}
	for _, s := range oddTexts {
		purely(t, impl.IsName, s)
		purely(t, impl.ReadDecimal, s)
		purely(t, impl.SplitWords, s)
	}
}

func TestConstantsOfBasics(t *testing.T) {
	got := []int64{
		impl.OK, impl.ErrInvalid, impl.ErrRange, impl.ErrNotFound, impl.ErrExists, impl.ErrFull,
		impl.ErrState, impl.ErrSyntax, impl.ErrFormat, impl.ErrClash, impl.ErrJam,
	}
	for want, code := range got {
		if code != int64(want) {
			t.Errorf("code %d has the value %d", want, code)
		}
	}
	if impl.MaxName != 12 {
		t.Errorf("MaxName is %d", impl.MaxName)
	}
}

func TestCodeName(t *testing.T) {
	names := []string{
		"ok", "invalid", "range", "not-found", "exists", "full", "state", "syntax", "format", "clash", "jam",
	}
	for code, want := range names {
		if got := impl.CodeName(int64(code)); got != want {
			t.Errorf("CodeName(%d) is %q, want %q", code, got, want)
		}
	}
	for _, code := range []int64{-1, 11, 12, 256, 1 << 32, math.MinInt64, math.MaxInt64} {
		if got := impl.CodeName(code); got != "" {
			t.Errorf("CodeName(%d) is %q, want nothing", code, got)
		}
	}
}

func TestIsName(t *testing.T) {
	for _, s := range []string{"a", "z", "wheel-3", "a0", "a9", "a-", "a--", "abcdefghijkl", "z-0123456789"} {
		if !impl.IsName(s) {
			t.Errorf("%q is a name", s)
		}
	}
	for _, s := range []string{
		"", "-", "-a", "0", "3-wheel", "A", "aB", "a_b", "a b", " a", "a ", "a.b", "a\n", "a\x00", "a`", "a{", "a/", "a:",
		"ä", "aä", "a٣", "a\xff", "\xe4", "abcdefghijklm", "abcdefghijk\u00e4",
	} {
		if impl.IsName(s) {
			t.Errorf("%q is no name", s)
		}
	}
}

// TestIsNameForEachByte pins the characters of names, at the first place and behind it.
func TestIsNameForEachByte(t *testing.T) {
	const first, behind = "abcdefghijklmnopqrstuvwxyz", "abcdefghijklmnopqrstuvwxyz0123456789-"
	for b := range 256 {
		s := string([]byte{byte(b)})
		if got, want := impl.IsName(s), strings.Contains(first, s); got != want {
			t.Errorf("IsName(%q) is %v", s, got)
		}
		if got, want := impl.IsName("a"+s), strings.Contains(behind, s); got != want {
			t.Errorf("IsName(%q) is %v", "a"+s, got)
		}
	}
}

func TestDecimal(t *testing.T) {
	for n, want := range map[int64]string{
		0: "0", 7: "7", -7: "-7", 10: "10", 1000000000000: "1000000000000",
		math.MaxInt64: "9223372036854775807", math.MinInt64: "-9223372036854775808",
	} {
		if got := impl.Decimal(n); got != want {
			t.Errorf("Decimal(%d) is %q", n, got)
		}
	}
}

func TestReadDecimal(t *testing.T) {
	for s, want := range map[string]int64{
		"0": 0, "5": 5, "-12": -12, "10": 10, "100": 100, "-1": -1,
		"999999999999999999": 999999999999999999, "-999999999999999999": -999999999999999999,
		"100000000000000000": 100000000000000000,
	} {
		if n, ok := impl.ReadDecimal(s); n != want || !ok {
			t.Errorf("ReadDecimal(%q) is %d, %v", s, n, ok)
		}
	}
	for _, s := range []string{
		"", "-", "+", "+1", "--1", "-0", "00", "01", "-01", " 1", "1 ", "1 2", "1\n", "\t1", "1.0", "1e3", "0x1f", "0b1", "1_000", "a",
		"1a", "a1", "٣", "１", "1\xff", "1\x00", "−1",
		"1000000000000000000", "-1000000000000000000", "9223372036854775807", "-9223372036854775808", "9223372036854775808",
		"18446744073709551617", "0000000000000000001", "-000000000000000001", strings.Repeat("1", 1000),
	} {
		if n, ok := impl.ReadDecimal(s); n != 0 || ok {
			t.Errorf("ReadDecimal(%q) is %d, %v", s, n, ok)
		}
	}
}

func TestReadDecimalReadsDecimal(t *testing.T) {
	for _, n := range oddNumbers {
		s := impl.Decimal(n)
		if s != strconv.FormatInt(n, 10) {
			t.Errorf("Decimal(%d) is %q", n, s)
		}
		got, ok := impl.ReadDecimal(s)
		if fits := len(strings.TrimPrefix(s, "-")) <= 18; ok != fits || ok && got != n {
			t.Errorf("ReadDecimal(%q) is %d, %v", s, got, ok)
		}
	}
}

func TestSplitWords(t *testing.T) {
	for _, c := range []struct {
		text string
		want []string
	}{
		{"", nil},
		{" ", nil},
		{"    ", nil},
		{"add", []string{"add"}},
		{"set 12", []string{"set", "12"}},
		{"  set   12  ", []string{"set", "12"}},
		{"c b a b", []string{"c", "b", "a", "b"}},
		{"a\tb\nc\rd\ve\ff", []string{"a\tb\nc\rd\ve\ff"}},
		{"\t \n", []string{"\t", "\n"}},
		{"a\u00a0b \u3000 \u0085", []string{"a\u00a0b", "\u3000", "\u0085"}},
		{"\xff \xe2\x80 é", []string{"\xff", "\xe2\x80", "é"}},
		{"\x00 \x00", []string{"\x00", "\x00"}},
	} {
		if got := impl.SplitWords(c.text); !slices.Equal(got, c.want) {
			t.Errorf("SplitWords(%q) is %q, want %q", c.text, got, c.want)
		}
	}
}
