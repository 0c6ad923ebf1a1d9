package tests

import (
	"math"
	"math/big"
	"slices"
	"strings"
	"testing"

	"loop.example/g00880/impl"
)

func TestCodesAndAnswersHaveTheirNumbers(t *testing.T) {
	codes := []int64{impl.OK, impl.ErrInvalid, impl.ErrRange, impl.ErrNotFound, impl.ErrExists, impl.ErrFull, impl.ErrState, impl.ErrSyntax, impl.ErrDomain, impl.ErrUnknown}
	names := []string{"ok", "invalid", "range", "not-found", "exists", "full", "state", "syntax", "domain", "unknown"}
	for i, name := range names {
		is(t, "the code "+name, codes[i], int64(i))
		is(t, "CodeName", impl.CodeName(int64(i)), name)
	}
	answers := []int64{impl.AnNo, impl.AnYes, impl.AnUnknown}
	for i, name := range []string{"no", "yes", "unknown"} {
		is(t, "the answer "+name, answers[i], int64(i))
		is(t, "AnswerName", impl.AnswerName(int64(i)), name)
	}
	is(t, "MaxName", impl.MaxName, 10)
}

func TestOtherNumbersHaveNoName(t *testing.T) {
	for _, n := range numbers() {
		if n < 0 || n > 9 {
			is(t, "CodeName", impl.CodeName(n), "")
		}
		if n < 0 || n > 2 {
			is(t, "AnswerName", impl.AnswerName(n), "")
		}
	}
	is(t, "CodeName(10)", impl.CodeName(10), "")
	is(t, "AnswerName(3)", impl.AnswerName(3), "")
	// Numbers whose low 32 or 8 bits are a code or an answer.
	is(t, "CodeName(2^32)", impl.CodeName(1<<32), "")
	is(t, "AnswerName(257)", impl.AnswerName(257), "")
}

// answerNumbers are the three answers and numbers that stand for AnUnknown.
var answerNumbers = []int64{0, 1, 2, 3, 7, 256, 1 << 32, -1, -2, math.MinInt64, math.MaxInt64}

func TestAnswersAreCombined(t *testing.T) {
	const no, yes, unknown = impl.AnNo, impl.AnYes, impl.AnUnknown
	and := [3][3]int64{{no, no, no}, {no, yes, unknown}, {no, unknown, unknown}}
	or := [3][3]int64{{no, yes, unknown}, {yes, yes, yes}, {unknown, yes, unknown}}
	not := [3]int64{yes, no, unknown}
	index := func(a int64) int64 {
		if a == no || a == yes {
			return a
		}
		return unknown
	}
	for _, a := range answerNumbers {
		is(t, "NotAnswer", impl.NotAnswer(a), not[index(a)])
		for _, b := range answerNumbers {
			is(t, "AndAnswer", impl.AndAnswer(a, b), and[index(a)][index(b)])
			is(t, "OrAnswer", impl.OrAnswer(a, b), or[index(a)][index(b)])
		}
	}
}

func TestNames(t *testing.T) {
	for _, s := range []string{"a", "z", "a0", "z9", "grid7", "x0123456789"[:10], "abcdefghij"} {
		is(t, "IsName "+s, impl.IsName(s), true)
	}
	for _, s := range []string{
		"", " ", "0", "9", "7grid", "A", "Z", "aB", "a b", " a", "a ", "a-b", "a_b", "a\n", "a\x00",
		"abcdefghijk", "a0123456789", strings.Repeat("a", 1000),
		"\u00e9", "a\u00e9", "\xff", "a\xff", "a\xc3", "\u0430", "a\u0660", "\uff41",
		"`", "{", "a/", "a:", "a`", "a{",
	} {
		is(t, "IsName "+s, impl.IsName(s), false)
	}
}

func TestEveryByteOfAName(t *testing.T) {
	for b := range 256 {
		small, digit := b >= 'a' && b <= 'z', b >= '0' && b <= '9'
		c := string([]byte{byte(b)})
		is(t, "IsName of one byte", impl.IsName(c), small)
		is(t, "IsName with the last byte "+c, impl.IsName("a"+c), small || digit)
		is(t, "IsName with the byte in the middle "+c, impl.IsName("a"+c+"b"), small || digit)
	}
}

func TestDecimal(t *testing.T) {
	is(t, "Decimal", impl.Decimal(0), "0")
	is(t, "Decimal", impl.Decimal(-12), "-12")
	is(t, "Decimal", impl.Decimal(math.MinInt64), "-9223372036854775808")
	is(t, "Decimal", impl.Decimal(math.MaxInt64), "9223372036854775807")
	for _, n := range numbers() {
		is(t, "Decimal", impl.Decimal(n), big.NewInt(n).String())
	}
}

func TestDecimalsOfAtMost18DigitsAreReadBack(t *testing.T) {
	for _, n := range numbers() {
		s := impl.Decimal(n)
		short := len(strings.TrimPrefix(s, "-")) <= 18
		got, ok := impl.ReadDecimal(s)
		is(t, "ReadDecimal "+s, ok, short)
		if short {
			is(t, "ReadDecimal "+s, got, n)
		} else {
			is(t, "ReadDecimal "+s, got, 0)
		}
	}
}

func TestOtherTextsAreNoDecimals(t *testing.T) {
	for _, s := range []string{
		"", "-", "+", " ", "-0", "007", "00", "-00", "-01", "01", "+1", "+0", "--1", "1-", "1 ", " 1", "- 1",
		"1.0", "1e3", "0x1", "1_0", "a", "1a", "1\n", "\u0661", "1\x00", "\xff",
		"1000000000000000000", "-1000000000000000000", "9223372036854775807", "-9223372036854775808",
		"9223372036854775808", "18446744073709551616", "18446744073709551617", "000000000000000001",
		"0000000000000000001", strings.Repeat("9", 1000), strings.Repeat("0", 1000),
	} {
		n, ok := impl.ReadDecimal(s)
		is(t, "ReadDecimal "+s, ok, false)
		is(t, "ReadDecimal "+s, n, 0)
	}
	n, ok := impl.ReadDecimal("-999999999999999999")
	is(t, "the least number", n, -999999999999999999)
	is(t, "the least number", ok, true)
	n, ok = impl.ReadDecimal("999999999999999999")
	is(t, "the greatest number", n, 999999999999999999)
	is(t, "the greatest number", ok, true)
}

func TestWords(t *testing.T) {
	for s, want := range map[string][]string{
		"": nil, " ": nil, "     ": nil,
		"a": {"a"}, " a": {"a"}, "a ": {"a"}, " a  b ": {"a", "b"}, "a b a": {"a", "b", "a"},
		"a\tb\nc":                       {"a\tb\nc"},
		"\u00a0 \u2003x":                {"\u00a0", "\u2003x"},
		"\xff \xc3 \xe2\x82":            {"\xff", "\xc3", "\xe2\x82"},
		"\xc3 a":                        {"\xc3", "a"},
		"\x00 \x1f \x21":                {"\x00", "\x1f", "!"},
		"point 52.5000000  -13.4000000": {"point", "52.5000000", "-13.4000000"},
	} {
		if got := impl.SplitWords(s); !slices.Equal(got, want) {
			t.Errorf("SplitWords(%q): got %q, want %q", s, got, want)
		}
	}
}

func TestEveryByteInWords(t *testing.T) {
	for b := range 256 {
		if b == ' ' {
			continue
		}
		c := string([]byte{byte(b)})
		if got := impl.SplitWords("x" + c + " " + c); !slices.Equal(got, []string{"x" + c, c}) {
			t.Errorf("SplitWords with the byte %d: got %q", b, got)
		}
	}
}

func TestWordsOfTwoCallsShareNothing(t *testing.T) {
	const text = "one two"
	first, second := impl.SplitWords(text), impl.SplitWords(text)
	first[0] = "changed"
	_ = append(first, "three")
	if !slices.Equal(second, []string{"one", "two"}) || !slices.Equal(impl.SplitWords(text), second) {
		t.Error("the words of one call change those of another one")
	}
}
