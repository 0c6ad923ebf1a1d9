package tests

import (
	"fmt"
	"math"
	"math/big"
	"regexp"
	"strings"
	"testing"

	"loop.example/g00880/impl"
)

// isFixOrNone compares a fix with the number that is wanted, or with no value
// if there is none or it is no fix.
func isFixOrNone(t *testing.T, name string, got int64, ok bool, want *big.Int) {
	t.Helper()
	exists := want != nil && isFix(want)
	is(t, name+" ok", ok, exists)
	if exists {
		is(t, name, got, want.Int64())
	} else {
		is(t, name, got, 0)
	}
}

// isRounded compares the results of both directions with num / den; there is
// none if den is 0.
func isRounded(t *testing.T, name string, a, b int64, down, up func(a, b int64) (int64, bool), num, den *big.Int) {
	t.Helper()
	var low, high *big.Int
	if den.Sign() < 0 {
		num, den = new(big.Int).Neg(num), new(big.Int).Neg(den)
	}
	if den.Sign() > 0 {
		low, _ = floorOf(num, den)
		high = ceilingOf(num, den)
	}
	n, ok := down(a, b)
	isFixOrNone(t, fmt.Sprintf("%s(%d, %d) down", name, a, b), n, ok, low)
	n, ok = up(a, b)
	isFixOrNone(t, fmt.Sprintf("%s(%d, %d) up", name, a, b), n, ok, high)
}

func TestFixesAreFromMinusMaxFixToMaxFix(t *testing.T) {
	is(t, "Unit", impl.Unit, 1<<32)
	is(t, "MaxFix", impl.MaxFix, 1<<60)
	is(t, "MaxDigits", impl.MaxDigits, 9)
	for _, n := range append(fixes(), numbers()...) {
		is(t, "ValidFix "+impl.Decimal(n), impl.ValidFix(n), isFix(big.NewInt(n)))
	}
	for n, want := range map[int64]bool{
		0: true, impl.MaxFix: true, -impl.MaxFix: true, impl.MaxFix + 1: false, -impl.MaxFix - 1: false,
		math.MaxInt64: false, math.MinInt64: false,
	} {
		is(t, "ValidFix "+impl.Decimal(n), impl.ValidFix(n), want)
	}
}

func TestQuotientsOfIntegersAreRounded(t *testing.T) {
	list := append(fixes(), numbers()...)
	// Numbers with quotients that are 2^28, the value of MaxFix, a quarter of a unit more, or less.
	list = append(list, 1<<34, 1<<62-1, 1<<62, 1<<62+1, -1<<62-1, -1<<62, -1<<62+1)
	for _, num := range list {
		for _, den := range list {
			divisor := big.NewInt(max(den, 0)) // there is no quotient by a negative den
			isRounded(t, "Fix", num, den, impl.FixFloor, impl.FixCeil, new(big.Int).Mul(big.NewInt(num), power(32)), divisor)
		}
	}
}

func TestProductsAndQuotientsOfFixesAreRounded(t *testing.T) {
	for _, a := range fixes() {
		for _, b := range fixes() {
			zero, x, y := new(big.Int), big.NewInt(a), big.NewInt(b)
			unit := power(32)
			if !inFixes(a, b) {
				unit, y = zero, zero
			}
			isRounded(t, "Mul", a, b, impl.MulDown, impl.MulUp, new(big.Int).Mul(x, big.NewInt(b)), unit)
			isRounded(t, "Div", a, b, impl.DivDown, impl.DivUp, new(big.Int).Mul(x, power(32)), y)
		}
	}
}

func TestRootsOfFixesAreRounded(t *testing.T) {
	list := fixes()
	for n := range int64(300) {
		// The values n^2, with exact roots, and their neighbours.
		list = append(list, n*n<<32-1, n*n<<32, n*n<<32+1, n)
	}
	for _, a := range list {
		var low, high *big.Int
		if inFixes(a) && a >= 0 {
			square := new(big.Int).Lsh(big.NewInt(a), 32)
			low = new(big.Int).Sqrt(square)
			high = low
			if new(big.Int).Mul(low, low).Cmp(square) != 0 {
				high = new(big.Int).Add(low, big.NewInt(1))
			}
		}
		n, ok := impl.SqrtDown(a)
		isFixOrNone(t, "SqrtDown "+impl.Decimal(a), n, ok, low)
		n, ok = impl.SqrtUp(a)
		isFixOrNone(t, "SqrtUp "+impl.Decimal(a), n, ok, high)
	}
}

// fixCase is a call with two arguments and its result.
type fixCase struct {
	name string
	call func(a, b int64) (int64, bool)
	a, b int64
	want int64
	ok   bool
}

func TestRoundingAtTheEdges(t *testing.T) {
	const limit, unit, above, below = impl.MaxFix, impl.Unit, 1<<46 + 1<<23, 1<<46 - 1<<23 + 1
	for _, c := range []fixCase{
		{"FixFloor", impl.FixFloor, 1, 3, 1431655765, true},
		{"FixCeil", impl.FixCeil, 1, 3, 1431655766, true},
		{"FixFloor", impl.FixFloor, -1, 3, -1431655766, true},
		{"FixCeil", impl.FixCeil, -1, 3, -1431655765, true},
		{"FixFloor", impl.FixFloor, 1 << 28, 1, limit, true},
		{"FixCeil", impl.FixCeil, -1 << 28, 1, -limit, true},
		{"FixFloor", impl.FixFloor, 1<<28 + 1, 1, 0, false},
		{"FixCeil", impl.FixCeil, -1<<28 - 1, 1, 0, false},
		{"FixFloor", impl.FixFloor, 1<<62 + 1, 1 << 34, limit, true},
		{"FixCeil", impl.FixCeil, 1<<62 + 1, 1 << 34, 0, false},
		{"FixFloor", impl.FixFloor, -1<<62 - 1, 1 << 34, 0, false},
		{"FixCeil", impl.FixCeil, -1<<62 - 1, 1 << 34, -limit, true},
		{"FixFloor", impl.FixFloor, math.MinInt64, math.MaxInt64, -unit - 1, true},
		{"FixCeil", impl.FixCeil, math.MinInt64, math.MaxInt64, -unit, true},
		{"FixCeil", impl.FixCeil, math.MaxInt64, math.MaxInt64, unit, true},
		{"FixFloor", impl.FixFloor, math.MinInt64, 1 << 62, -2 * unit, true},
		{"FixFloor", impl.FixFloor, 1, 0, 0, false},
		{"FixCeil", impl.FixCeil, 0, 0, 0, false},
		{"FixFloor", impl.FixFloor, 1, -3, 0, false},
		{"FixCeil", impl.FixCeil, 1, math.MinInt64, 0, false},
		{"MulDown", impl.MulDown, 1, 1, 0, true},
		{"MulUp", impl.MulUp, 1, 1, 1, true},
		{"MulDown", impl.MulDown, -1, 1, -1, true},
		{"MulUp", impl.MulUp, -1, 1, 0, true},
		{"MulUp", impl.MulUp, limit, -unit, -limit, true},
		{"MulDown", impl.MulDown, limit, unit + 1, 0, false},
		{"MulDown", impl.MulDown, above, below, limit, true},
		{"MulUp", impl.MulUp, above, below, 0, false},
		{"MulDown", impl.MulDown, above, -below, 0, false},
		{"MulUp", impl.MulUp, -above, below, -limit, true},
		{"MulDown", impl.MulDown, limit + 1, 0, 0, false},
		{"MulUp", impl.MulUp, 0, math.MinInt64, 0, false},
		{"DivDown", impl.DivDown, unit, -3 * unit, -1431655766, true},
		{"DivUp", impl.DivUp, unit, -3 * unit, -1431655765, true},
		{"DivUp", impl.DivUp, -unit, -3 * unit, 1431655766, true},
		{"DivDown", impl.DivDown, limit, -unit, -limit, true},
		{"DivUp", impl.DivUp, limit - 1<<28, unit - 1, limit, true},
		{"DivDown", impl.DivDown, limit - 1<<28 + 1, unit - 1, 0, false},
		{"DivDown", impl.DivDown, 1, 0, 0, false},
		{"DivUp", impl.DivUp, 0, 0, 0, false},
		{"DivDown", impl.DivDown, 0, limit + 1, 0, false},
		{"DivUp", impl.DivUp, -limit - 1, limit, 0, false},
		{"DivDown", impl.DivDown, math.MinInt64, math.MinInt64, 0, false},
	} {
		got, ok := c.call(c.a, c.b)
		is(t, fmt.Sprintf("%s(%d, %d)", c.name, c.a, c.b), got, c.want)
		is(t, fmt.Sprintf("%s(%d, %d) ok", c.name, c.a, c.b), ok, c.ok)
	}
}

func TestRootsAtTheEdges(t *testing.T) {
	for _, c := range []struct {
		a, down, up int64
		ok          bool
	}{
		{0, 0, 0, true}, {1, 1 << 16, 1 << 16, true}, {2, 92681, 92682, true},
		{impl.Unit, impl.Unit, impl.Unit, true}, {2 * impl.Unit, 6074000999, 6074001000, true},
		{4 * impl.Unit, 2 * impl.Unit, 2 * impl.Unit, true},
		{impl.MaxFix, 1 << 46, 1 << 46, true}, {impl.MaxFix - 1, 1<<46 - 1, 1 << 46, true},
		{impl.MaxFix + 1, 0, 0, false}, {-1, 0, 0, false}, {-impl.MaxFix, 0, 0, false},
		{math.MaxInt64, 0, 0, false}, {math.MinInt64, 0, 0, false},
	} {
		down, downOk := impl.SqrtDown(c.a)
		up, upOk := impl.SqrtUp(c.a)
		is(t, "SqrtDown "+impl.Decimal(c.a), down, c.down)
		is(t, "SqrtUp "+impl.Decimal(c.a), up, c.up)
		is(t, "Sqrt ok "+impl.Decimal(c.a), downOk && upOk, c.ok)
		is(t, "Sqrt ok "+impl.Decimal(c.a), downOk || upOk, c.ok)
	}
}

func TestTextsAreRounded(t *testing.T) {
	for _, n := range fixes() {
		for digits := range int64(10) {
			down, up := "", ""
			if inFixes(n) {
				ten := new(big.Int).Exp(big.NewInt(10), big.NewInt(digits), nil)
				places := new(big.Int).Mul(big.NewInt(n), ten)
				low, _ := floorOf(places, power(32))
				down = new(big.Rat).SetFrac(low, ten).FloatString(int(digits))
				up = new(big.Rat).SetFrac(ceilingOf(places, power(32)), ten).FloatString(int(digits))
			}
			is(t, "TextDown "+impl.Decimal(n), impl.TextDown(n, digits), down)
			is(t, "TextUp "+impl.Decimal(n), impl.TextUp(n, digits), up)
		}
		for _, digits := range []int64{-1, 10, 18, 64, 1 << 32, 1<<32 + 2, math.MinInt64, math.MaxInt64} {
			is(t, "TextDown with digits "+impl.Decimal(digits), impl.TextDown(n, digits), "")
			is(t, "TextUp with digits "+impl.Decimal(digits), impl.TextUp(n, digits), "")
		}
	}
}

func TestTextsAtTheEdges(t *testing.T) {
	for _, c := range []struct {
		n, digits int64
		down, up  string
	}{
		{0, 0, "0", "0"}, {0, 9, "0.000000000", "0.000000000"},
		{1, 0, "0", "1"}, {-1, 0, "-1", "0"}, {1, 2, "0.00", "0.01"}, {-1, 2, "-0.01", "0.00"},
		{1, 9, "0.000000000", "0.000000001"}, {-1, 9, "-0.000000001", "0.000000000"},
		{5, 9, "0.000000001", "0.000000002"}, {-5, 9, "-0.000000002", "-0.000000001"},
		{impl.Unit * 3 / 2, 0, "1", "2"}, {-impl.Unit * 3 / 2, 0, "-2", "-1"}, {-impl.Unit * 3 / 2, 1, "-1.5", "-1.5"},
		{impl.MaxFix, 0, "268435456", "268435456"}, {-impl.MaxFix, 9, "-268435456.000000000", "-268435456.000000000"},
		{impl.MaxFix - 1, 9, "268435455.999999999", "268435456.000000000"},
		{-impl.MaxFix + 1, 9, "-268435456.000000000", "-268435455.999999999"},
		{impl.MaxFix + 1, 9, "", ""}, {-impl.MaxFix - 1, 0, "", ""}, {math.MinInt64, 0, "", ""},
		{0, -1, "", ""}, {0, 10, "", ""},
	} {
		is(t, "TextDown "+impl.Decimal(c.n), impl.TextDown(c.n, c.digits), c.down)
		is(t, "TextUp "+impl.Decimal(c.n), impl.TextUp(c.n, c.digits), c.up)
	}
}

var (
	decimalForm = regexp.MustCompile(`^-?(0|[1-9][0-9]*)(\.[0-9]{1,9})?$`)
	minusZero   = regexp.MustCompile(`^-0(\.0+)?$`)
)

// isRead compares the numbers that are read with the value of a decimal number.
func isRead(t *testing.T, s string) {
	t.Helper()
	var low, high *big.Int
	if decimalForm.MatchString(s) && !minusZero.MatchString(s) {
		value, _ := new(big.Rat).SetString(s)
		num := new(big.Int).Lsh(value.Num(), 32)
		low, _ = floorOf(num, value.Denom())
		high = ceilingOf(num, value.Denom())
		if !isFix(low) || !isFix(high) {
			low, high = nil, nil
		}
	}
	down, up, ok := impl.ReadFix(s)
	isFixOrNone(t, fmt.Sprintf("ReadFix(%q) down", s), down, ok, low)
	isFixOrNone(t, fmt.Sprintf("ReadFix(%q) up", s), up, ok, high)
}

func TestDecimalNumbersAreReadAndRounded(t *testing.T) {
	for _, s := range []string{
		"0", "0.0", "0.000000000", "1", "-1", "0.1", "-0.1", "0.5", "-0.5", "1.50", "10", "100.001", "-100.001000000",
		"0.000000001", "-0.000000001", "0.999999999", "123456789.123456789",
		"268435456", "-268435456", "268435456.000000000", "-268435456.0", "268435455.999999999", "-268435455.999999999",
		// Beyond the fixes, some of them by less than a digit, or with more digits than an int64.
		"268435456.000000001", "-268435456.000000001", "268435457", "-268435457", "999999999", "-1000000000",
		"999999999999999999", "9999999999.999999999", "18446744073.709551617", "-36893488147.419103233", "18446744073709551616", "18446744073709551617.5", "-9223372036854775808",
		strings.Repeat("9", 1000),
		// No decimal numbers.
		"", "-", "--1", "-0", "-0.0", "-0.000000000", "00", "01", "007", "00.5", "-01.5", "+1", "+0.5", " 1", "1 ", "- 1",
		".", "-.", "1.", "-1.", ".5", "-.5", "1..5", "1.5.", "1.5.5", "1.-5", "1.+5", "1,5", "1.5-", "1-.5", "0.-1",
		"1.1234567890", "0.0000000000", "1.000000000000000000000", "1e3", "1.5e3", "0x1", "0x.8", "1_0", "1.5_0", "0b1", "1/2",
		"NaN", "Inf", "-Inf", "whole", "a", "1.a", "1.5\n", "\n1.5", "1.5\x00", "\x00", "1.\u0661", "\u0661.5", "1\xff", "1.5\xff",
		strings.Repeat("0", 1000), "0." + strings.Repeat("0", 1000), "1.5" + strings.Repeat(" ", 1000),
	} {
		isRead(t, s)
	}
}

func TestEveryShortTextIsReadOrNot(t *testing.T) {
	list := []string{""}
	for first := 0; len(list[first]) < 6; first++ {
		for _, c := range "-.019" {
			list = append(list, list[first]+string(c))
		}
	}
	for _, s := range list {
		isRead(t, s)
	}
}

func TestEveryByteOfADecimalNumber(t *testing.T) {
	for b := range 256 {
		c := string([]byte{byte(b)})
		for _, s := range []string{c, c + "1.5", "1" + c + "5", "1." + c, "1." + c + "5", "1.5" + c, "-" + c + ".5", "-0." + c} {
			isRead(t, s)
		}
	}
}

func TestTextsAreReadBack(t *testing.T) {
	for _, n := range fixes() {
		for digits := range int64(10) {
			if !inFixes(n) {
				continue
			}
			down, _, ok := impl.ReadFix(impl.TextDown(n, digits))
			is(t, "the text of "+impl.Decimal(n)+" is read", ok, true)
			if down > n {
				t.Errorf("TextDown(%d, %d) is greater than the number", n, digits)
			}
			_, up, ok := impl.ReadFix(impl.TextUp(n, digits))
			is(t, "the text of "+impl.Decimal(n)+" is read", ok, true)
			if up < n {
				t.Errorf("TextUp(%d, %d) is less than the number", n, digits)
			}
		}
	}
}
