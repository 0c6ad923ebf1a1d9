package tests

import (
	"fmt"
	"math"
	"math/big"
	"regexp"
	"strings"
	"testing"

	"loop.example/g00880/impl"
)

// operation is an operation on intervals, with the exact result for two
// numbers in units of 2^-32; nil if there is none.
type operation struct {
	name  string
	run   func(a, b impl.Interval) impl.Interval
	exact func(x, y *big.Rat) *big.Rat
}

// alone makes an operation on one interval one on two, of which it uses the first.
func alone(run func(a impl.Interval) impl.Interval) func(a, b impl.Interval) impl.Interval {
	return func(a, b impl.Interval) impl.Interval { return run(a) }
}

// unitRat is the number of units of 1.
func unitRat() *big.Rat { return new(big.Rat).SetInt(power(32)) }

func product(x, y *big.Rat) *big.Rat {
	p := new(big.Rat).Mul(x, y)
	return p.Quo(p, unitRat())
}

func quotient(x, y *big.Rat) *big.Rat {
	if y.Sign() == 0 {
		return nil
	}
	q := new(big.Rat).Quo(x, y)
	return q.Mul(q, unitRat())
}

func lesser(x, y *big.Rat) *big.Rat {
	if x.Cmp(y) < 0 {
		return x
	}
	return y
}

func greater(x, y *big.Rat) *big.Rat {
	if x.Cmp(y) > 0 {
		return x
	}
	return y
}

// pairOperations returns the operations on two intervals that have their
// extremes at ends.
func pairOperations() []operation {
	return []operation{
		{"AddI", impl.AddI, func(x, y *big.Rat) *big.Rat { return new(big.Rat).Add(x, y) }},
		{"SubI", impl.SubI, func(x, y *big.Rat) *big.Rat { return new(big.Rat).Sub(x, y) }},
		{"MulI", impl.MulI, product},
		{"DivI", impl.DivI, quotient},
		{"MinI", impl.MinI, lesser},
		{"MaxI", impl.MaxI, greater},
	}
}

// singleOperations returns the operations on one interval that have their
// extremes at ends or at 0.
func singleOperations() []operation {
	return []operation{
		{"NegI", alone(impl.NegI), func(x, y *big.Rat) *big.Rat { return new(big.Rat).Neg(x) }},
		{"SqrI", alone(impl.SqrI), func(x, y *big.Rat) *big.Rat { return product(x, x) }},
		{"AbsI", alone(impl.AbsI), func(x, y *big.Rat) *big.Rat { return new(big.Rat).Abs(x) }},
		{"HalfI", alone(impl.HalfI), func(x, y *big.Rat) *big.Rat { return new(big.Rat).Mul(x, big.NewRat(1, 2)) }},
		{"DoubleI", alone(impl.DoubleI), func(x, y *big.Rat) *big.Rat { return new(big.Rat).Add(x, x) }},
	}
}

// hasZero reports whether a bounded interval contains 0.
func hasZero(a impl.Interval) bool { return a.Lo <= 0 && a.Hi >= 0 }

// extremes returns the ends of an interval, and 0 if it contains 0.
func extremes(a impl.Interval) []*big.Rat {
	list := []*big.Rat{big.NewRat(a.Lo, 1), big.NewRat(a.Hi, 1)}
	if hasZero(a) {
		list = append(list, new(big.Rat))
	}
	return list
}

// enclosure returns the interval from the least to the greatest number of a
// list, rounded down and up; Whole if it is not bounded.
func enclosure(list []*big.Rat) impl.Interval {
	least, greatest := list[0], list[0]
	for _, x := range list {
		least, greatest = lesser(least, x), greater(greatest, x)
	}
	lo, _ := floorOf(least.Num(), least.Denom())
	return fromTo(lo, ceilingOf(greatest.Num(), greatest.Denom()))
}

// fromTo returns the interval with two ends; Whole if it is not bounded.
func fromTo(lo, hi *big.Int) impl.Interval {
	limit := power(60)
	if lo.CmpAbs(limit) >= 0 || hi.CmpAbs(limit) >= 0 {
		return whole
	}
	return impl.Interval{Lo: lo.Int64(), Hi: hi.Int64()}
}

var whole = impl.Interval{Lo: -impl.MaxFix, Hi: impl.MaxFix}

// isEnclosure compares a result with the one for the extremes of the arguments.
func isEnclosure(t *testing.T, op operation, a, b impl.Interval) {
	t.Helper()
	var list []*big.Rat
	known := true
	for _, x := range extremes(a) {
		for _, y := range extremes(b) {
			result := op.exact(x, y)
			known = known && result != nil
			list = append(list, result)
		}
	}
	want := whole
	if known {
		want = enclosure(list)
	}
	is(t, fmt.Sprint(op.name, a, b), op.run(a, b), want)
}

func TestOperationsReturnTheLeastEnclosure(t *testing.T) {
	for _, a := range boundedIntervals() {
		for _, op := range singleOperations() {
			isEnclosure(t, op, a, impl.Interval{})
		}
		for _, b := range boundedIntervals() {
			for _, op := range pairOperations() {
				isEnclosure(t, op, a, b)
			}
			want := impl.Interval{Lo: min(a.Lo, b.Lo), Hi: max(a.Hi, b.Hi)}
			is(t, fmt.Sprint("HullI", a, b), impl.HullI(a, b), want)
		}
	}
}

func TestRootsOfIntervalsAreTheLeastEnclosure(t *testing.T) {
	for _, a := range boundedIntervals() {
		want := whole
		if a.Lo >= 0 {
			lo := new(big.Int).Sqrt(new(big.Int).Lsh(big.NewInt(a.Lo), 32))
			// The least n with n^2 >= h is the root of h - 1, rounded down, plus 1.
			hi := new(big.Int).Lsh(big.NewInt(a.Hi), 32)
			if hi.Sign() > 0 {
				hi.Sub(hi, big.NewInt(1)).Sqrt(hi).Add(hi, big.NewInt(1))
			}
			want = fromTo(lo, hi)
		}
		is(t, fmt.Sprint("SqrtI", a), impl.SqrtI(a), want)
	}
}

// members returns some numbers of a bounded interval.
func members(a impl.Interval) []int64 {
	list := []int64{a.Lo, a.Hi, a.Lo + (a.Hi-a.Lo)/2, a.Lo + (a.Hi-a.Lo)/3}
	if hasZero(a) {
		list = append(list, 0, min(1, a.Hi), max(-1, a.Lo))
	}
	return list
}

// isIn reports whether an interval contains a number in units.
func isIn(x *big.Rat, a impl.Interval) bool {
	return a == whole || x.Cmp(big.NewRat(a.Lo, 1)) >= 0 && x.Cmp(big.NewRat(a.Hi, 1)) <= 0
}

// someIntervals returns a third of the bounded intervals, to be combined in
// many ways.
func someIntervals() []impl.Interval {
	var list []impl.Interval
	for i, a := range boundedIntervals() {
		if i%3 == 1 {
			list = append(list, a)
		}
	}
	return list
}

func TestResultsEncloseThoseForAllNumbers(t *testing.T) {
	operations := append(pairOperations(), singleOperations()...)
	operations = append(operations,
		operation{"HullI", impl.HullI, func(x, y *big.Rat) *big.Rat { return x }},
		operation{"HullI", impl.HullI, func(x, y *big.Rat) *big.Rat { return y }})
	for _, op := range operations {
		for _, a := range someIntervals() {
			for _, b := range someIntervals() {
				result := op.run(a, b)
				for _, x := range members(a) {
					for _, y := range members(b) {
						exact := op.exact(big.NewRat(x, 1), big.NewRat(y, 1))
						if exact != nil && !isIn(exact, result) {
							t.Errorf("%s%v%v: the result %v does not contain that for %d and %d", op.name, a, b, result, x, y)
						}
					}
				}
			}
		}
	}
}

// parts returns parts of an interval; of a whole one, some of all forms.
func parts(a impl.Interval) []impl.Interval {
	if impl.IsWhole(a) {
		return append(someIntervals(), wholes()...)
	}
	middle := a.Lo + (a.Hi-a.Lo)/2
	return []impl.Interval{
		a, {Lo: a.Lo, Hi: a.Lo}, {Lo: a.Hi, Hi: a.Hi}, {Lo: a.Lo, Hi: middle}, {Lo: middle, Hi: a.Hi},
		{Lo: middle, Hi: middle}, {Lo: a.Lo + (a.Hi-a.Lo)/4, Hi: middle},
	}
}

// isPart reports whether a result is a part of another one.
func isPart(a, b impl.Interval) bool { return b == whole || b.Lo <= a.Lo && a.Hi <= b.Hi }

func TestResultsForPartsArePartsOfResults(t *testing.T) {
	operations := append(pairOperations(), singleOperations()...)
	operations = append(operations, operation{"HullI", impl.HullI, nil}, operation{"SqrtI", alone(impl.SqrtI), nil})
	list := append(someIntervals(), whole, impl.Interval{Lo: 1})
	for _, a := range list {
		for _, b := range list {
			meet, _ := impl.MeetI(a, b)
			for _, x := range parts(a) {
				for _, y := range parts(b) {
					for _, op := range operations {
						if !isPart(op.run(x, y), op.run(a, b)) {
							t.Errorf("%s: the result for %v and %v is no part of that for %v and %v", op.name, x, y, a, b)
						}
					}
					if part, ok := impl.MeetI(x, y); ok && !isPart(part, meet) {
						t.Errorf("MeetI: the result for %v and %v is no part of that for %v and %v", x, y, a, b)
					}
				}
			}
		}
	}
}

func TestBoundedAndWholeIntervals(t *testing.T) {
	is(t, "Whole", impl.Whole(), whole)
	for _, a := range boundedIntervals() {
		is(t, fmt.Sprint("ValidInterval", a), impl.ValidInterval(a), true)
		is(t, fmt.Sprint("IsWhole", a), impl.IsWhole(a), false)
	}
	for _, a := range wholes() {
		is(t, fmt.Sprint("ValidInterval", a), impl.ValidInterval(a), false)
		is(t, fmt.Sprint("IsWhole", a), impl.IsWhole(a), true)
	}
	for _, lo := range fixes() {
		for _, hi := range fixes() {
			bounded := -impl.MaxFix < lo && lo <= hi && hi < impl.MaxFix
			is(t, "ValidInterval", impl.ValidInterval(impl.Interval{Lo: lo, Hi: hi}), bounded)
			is(t, "IsWhole", impl.IsWhole(impl.Interval{Lo: lo, Hi: hi}), !bounded)
		}
	}
}

func TestWholeArgumentsHaveWholeResults(t *testing.T) {
	operations := append(pairOperations(), operation{"HullI", impl.HullI, nil})
	singles := append(singleOperations(), operation{"SqrtI", alone(impl.SqrtI), nil})
	for _, w := range wholes() {
		for _, op := range singles {
			is(t, fmt.Sprint(op.name, w), op.run(w, w), whole)
		}
		for _, a := range append(boundedIntervals(), wholes()...) {
			for _, op := range operations {
				is(t, fmt.Sprint(op.name, w, a), op.run(w, a), whole)
				is(t, fmt.Sprint(op.name, a, w), op.run(a, w), whole)
			}
		}
	}
}

func TestWholeIntervalsAreCompared(t *testing.T) {
	for _, w := range wholes() {
		is(t, fmt.Sprint("WidthI", w), impl.WidthI(w), -1)
		is(t, fmt.Sprint("MidI", w), impl.MidI(w), 0)
		is(t, fmt.Sprint("IntervalText", w), impl.IntervalText(w), "whole")
		for _, n := range append(fixes(), numbers()...) {
			is(t, fmt.Sprint("HasI", w, n), impl.HasI(w, n), true)
		}
		for _, a := range boundedIntervals() {
			isMeet(t, w, a, a, true)
			is(t, fmt.Sprint("InsideI", w, a), impl.InsideI(w, a), false)
			is(t, fmt.Sprint("InsideI", a, w), impl.InsideI(a, w), true)
			is(t, fmt.Sprint("OverlapI", w, a), impl.OverlapI(w, a), true)
			is(t, fmt.Sprint("OverlapI", a, w), impl.OverlapI(a, w), true)
			is(t, fmt.Sprint("LessI", w, a), impl.LessI(w, a), impl.AnUnknown)
			is(t, fmt.Sprint("LessI", a, w), impl.LessI(a, w), impl.AnUnknown)
		}
		for _, v := range wholes() {
			isMeet(t, w, v, whole, true)
			is(t, fmt.Sprint("InsideI", w, v), impl.InsideI(w, v), true)
			is(t, fmt.Sprint("OverlapI", w, v), impl.OverlapI(w, v), true)
			is(t, fmt.Sprint("LessI", w, v), impl.LessI(w, v), impl.AnUnknown)
		}
	}
}

// isMeet compares MeetI in both orders with the result that is wanted.
func isMeet(t *testing.T, a, b, want impl.Interval, wantOk bool) {
	t.Helper()
	for _, pair := range [][2]impl.Interval{{a, b}, {b, a}} {
		got, ok := impl.MeetI(pair[0], pair[1])
		is(t, fmt.Sprint("MeetI", pair), got, want)
		is(t, fmt.Sprint("MeetI ok", pair), ok, wantOk)
	}
}

// places are the numbers of which the small intervals consist.
var places = []int64{-4, -3, -2, -1, 0, 1, 2, 3, 4}

// smallIntervals returns all intervals with ends from -3 to 3.
func smallIntervals() []impl.Interval {
	var list []impl.Interval
	for lo := int64(-3); lo <= 3; lo++ {
		for hi := lo; hi <= 3; hi++ {
			list = append(list, impl.Interval{Lo: lo, Hi: hi})
		}
	}
	return list
}

// common returns the number of places that are in both intervals, and whether
// all, and whether some, of a are less than those of b.
func common(a, b impl.Interval) (int, bool, bool) {
	both, all, some := 0, true, false
	for _, n := range places {
		if a.Lo <= n && n <= a.Hi && b.Lo <= n && n <= b.Hi {
			both++
		}
		for _, m := range places {
			if a.Lo <= n && n <= a.Hi && b.Lo <= m && m <= b.Hi {
				all, some = all && n < m, some || n < m
			}
		}
	}
	return both, all, some
}

func TestSmallIntervalsAreComparedNumberByNumber(t *testing.T) {
	for _, a := range smallIntervals() {
		for _, n := range places {
			is(t, fmt.Sprint("HasI", a, n), impl.HasI(a, n), a.Lo <= n && n <= a.Hi)
		}
		for _, b := range smallIntervals() {
			both, all, some := common(a, b)
			is(t, fmt.Sprint("OverlapI", a, b), impl.OverlapI(a, b), both > 0)
			is(t, fmt.Sprint("InsideI", a, b), impl.InsideI(a, b), int64(both) == a.Hi-a.Lo+1)
			less := int64(impl.AnUnknown)
			if all {
				less = impl.AnYes
			} else if !some {
				less = impl.AnNo
			}
			is(t, fmt.Sprint("LessI", a, b), impl.LessI(a, b), less)
			want := impl.Interval{}
			if both > 0 {
				want = impl.Interval{Lo: max(a.Lo, b.Lo), Hi: min(a.Hi, b.Hi)}
			}
			isMeet(t, a, b, want, both > 0)
		}
	}
}

func TestWidthAndMiddle(t *testing.T) {
	for _, a := range boundedIntervals() {
		is(t, fmt.Sprint("WidthI", a), impl.WidthI(a), a.Hi-a.Lo)
		sum := new(big.Int).Add(big.NewInt(a.Lo), big.NewInt(a.Hi))
		middle, _ := floorOf(sum, big.NewInt(2))
		is(t, fmt.Sprint("MidI", a), impl.MidI(a), middle.Int64())
	}
	is(t, "MidI", impl.MidI(impl.Interval{Lo: -2, Hi: -1}), -2)
	is(t, "WidthI", impl.WidthI(impl.Interval{Lo: 4, Hi: 7}), 3)
	is(t, "WidthI", impl.WidthI(impl.Interval{Lo: 4, Hi: 4}), 0)
	is(t, "HasI", impl.HasI(impl.Interval{Lo: 4, Hi: 7}, math.MinInt64), false)
	is(t, "HasI", impl.HasI(impl.Interval{Lo: 4, Hi: 7}, math.MaxInt64), false)
}

func TestIntegersAndQuotientsAreEnclosed(t *testing.T) {
	list := append(fixes(), numbers()...)
	list = append(list, 1<<28-1, 1<<28, 1<<28+1, -1<<28+1, -1<<28, -1<<28-1)
	for _, n := range list {
		units := new(big.Int).Lsh(big.NewInt(n), 32)
		is(t, "Integer "+impl.Decimal(n), impl.Integer(n), fromTo(units, units))
		for _, den := range list {
			want := whole
			if den > 0 || den < 0 && den != math.MinInt64 && n != math.MinInt64 {
				want = enclosure([]*big.Rat{new(big.Rat).SetFrac(units, big.NewInt(den))})
			}
			is(t, fmt.Sprintf("Quotient(%d, %d)", n, den), impl.Quotient(n, den), want)
		}
	}
}

func TestQuotientsAtTheEdges(t *testing.T) {
	const least, most = math.MinInt64, math.MaxInt64
	for _, c := range []struct {
		num, den, lo, hi int64
	}{
		{1, 3, 1431655765, 1431655766}, {1, -3, -1431655766, -1431655765}, {-1, -3, 1431655765, 1431655766},
		{0, 7, 0, 0}, {0, -7, 0, 0}, {least, 1 << 62, -2 * impl.Unit, -2 * impl.Unit}, {most, most, impl.Unit, impl.Unit},
		{1<<28 - 1, 1, impl.MaxFix - impl.Unit, impl.MaxFix - impl.Unit},
	} {
		is(t, fmt.Sprintf("Quotient(%d, %d)", c.num, c.den), impl.Quotient(c.num, c.den), impl.Interval{Lo: c.lo, Hi: c.hi})
	}
	for _, pair := range [][2]int64{
		{1, 0}, {0, 0}, {least, 0}, {1, least}, {0, least}, {least, least}, {least, -1}, {least, -1 << 62}, {least, 1},
		{1 << 28, 1}, {-1 << 28, 1}, {1<<62 - 1, 1 << 34}, {1<<62 + 1, 1 << 34},
	} {
		is(t, fmt.Sprintf("Quotient(%d, %d)", pair[0], pair[1]), impl.Quotient(pair[0], pair[1]), whole)
	}
}

func TestArithmeticAtTheEdges(t *testing.T) {
	const limit, unit = impl.MaxFix, impl.Unit
	zero, one, three := impl.Integer(0), impl.Interval{Lo: 1, Hi: 1}, impl.Interval{Lo: -3, Hi: 3}
	most, least := impl.Interval{Lo: limit - 1, Hi: limit - 1}, impl.Interval{Lo: 1 - limit, Hi: 1 - limit}
	is(t, "to MaxFix", impl.AddI(most, one), whole)
	is(t, "to -MaxFix", impl.SubI(least, one), whole)
	is(t, "just within MaxFix", impl.AddI(most, zero), most)
	is(t, "just within -MaxFix", impl.NegI(most), least)
	is(t, "the greatest less itself", impl.SubI(most, most), zero)
	is(t, "twice a half of MaxFix", impl.DoubleI(impl.Interval{Lo: 0, Hi: limit / 2}), whole)
	is(t, "twice less than a half of MaxFix", impl.DoubleI(impl.Interval{Lo: 0, Hi: limit/2 - 1}), impl.Interval{Lo: 0, Hi: limit - 2})
	is(t, "half of odd ends", impl.HalfI(three), impl.Interval{Lo: -2, Hi: 2})
	is(t, "half of odd ends", impl.HalfI(impl.Interval{Lo: 1, Hi: 3}), impl.Interval{Lo: 0, Hi: 2})
	is(t, "half of odd ends", impl.HalfI(impl.Interval{Lo: -3, Hi: -1}), impl.Interval{Lo: -2, Hi: 0})
	is(t, "half of even ends", impl.HalfI(impl.Interval{Lo: -4, Hi: 6}), impl.Interval{Lo: -2, Hi: 3})
	is(t, "the square of both signs", impl.SqrI(three), impl.Interval{Lo: 0, Hi: 1})
	is(t, "the product of both signs", impl.MulI(three, three), impl.Interval{Lo: -1, Hi: 1})
	is(t, "the square of MaxFix", impl.SqrI(impl.Interval{Lo: 0, Hi: 1 << 46}), whole)
	is(t, "the square of less", impl.SqrI(impl.Interval{Lo: 1 - 1<<46, Hi: 0}), impl.Interval{Lo: 0, Hi: limit - 1<<15 + 1})
	is(t, "by an interval from 0", impl.DivI(one, impl.Interval{Lo: 0, Hi: unit}), whole)
	is(t, "by an interval to 0", impl.DivI(one, impl.Interval{Lo: -unit, Hi: 0}), whole)
	is(t, "by an interval around 0", impl.DivI(one, three), whole)
	is(t, "0 by 0", impl.DivI(zero, zero), whole)
	is(t, "by a negative number", impl.DivI(impl.Integer(1), impl.Integer(-3)), impl.Interval{Lo: -1431655766, Hi: -1431655765})
	is(t, "the root of 0", impl.SqrtI(zero), zero)
	is(t, "the root from a negative number", impl.SqrtI(impl.Interval{Lo: -1, Hi: unit}), whole)
	is(t, "the root of an interval", impl.SqrtI(impl.Interval{Lo: 2 * unit, Hi: 2 * unit}), impl.Interval{Lo: 6074000999, Hi: 6074001000})
	is(t, "the absolute value to 0", impl.AbsI(impl.Interval{Lo: -7, Hi: 0}), impl.Interval{Lo: 0, Hi: 7})
	is(t, "the absolute value around 0", impl.AbsI(impl.Interval{Lo: -7, Hi: 3}), impl.Interval{Lo: 0, Hi: 7})
	is(t, "the absolute value below 0", impl.AbsI(impl.Interval{Lo: -7, Hi: -3}), impl.Interval{Lo: 3, Hi: 7})
}

var intervalForm = regexp.MustCompile(`^\[-?(0|[1-9][0-9]*)\.[0-9]{9}, -?(0|[1-9][0-9]*)\.[0-9]{9}\]$`)

func TestTextsOfIntervalsAreReadBack(t *testing.T) {
	for _, a := range boundedIntervals() {
		s := impl.IntervalText(a)
		is(t, "IntervalText", s, "["+impl.TextDown(a.Lo, 9)+", "+impl.TextUp(a.Hi, 9)+"]")
		is(t, "the form of "+s, intervalForm.MatchString(s), true)
		got, ok := impl.ReadInterval(s)
		// The text of a number next to MaxFix may be that of MaxFix, which ends no bounded interval.
		if strings.Contains(s, "268435456") {
			is(t, "ReadInterval "+s, got, impl.Interval{})
			is(t, "ReadInterval "+s, ok, false)
			continue
		}
		is(t, "ReadInterval "+s, ok, true)
		if got.Lo > a.Lo || a.Lo-got.Lo > 5 || got.Hi < a.Hi || got.Hi-a.Hi > 5 {
			t.Errorf("%v is read back as %v", a, got)
		}
	}
	is(t, "2", impl.IntervalText(impl.Integer(2)), "[2.000000000, 2.000000000]")
	is(t, "a third", impl.IntervalText(impl.Quotient(1, 3)), "[0.333333333, 0.333333334]")
	is(t, "around 0", impl.IntervalText(impl.Interval{Lo: -1, Hi: 1}), "[-0.000000001, 0.000000001]")
	is(t, "0", impl.IntervalText(impl.Interval{}), "[0.000000000, 0.000000000]")
}

func TestIntervalsAreRead(t *testing.T) {
	for s, want := range map[string]impl.Interval{
		"whole":          whole,
		"[0, 0]":         {},
		"[-0.1, 0.1]":    {Lo: -429496730, Hi: 429496730},
		"[0.1, 0.1]":     {Lo: 429496729, Hi: 429496730},
		"[-0.1, -0.1]":   {Lo: -429496730, Hi: -429496729},
		"[1, 2.5]":       {Lo: impl.Unit, Hi: impl.Unit * 5 / 2},
		"[-3.0, -2.000]": {Lo: -3 * impl.Unit, Hi: -2 * impl.Unit},
		"[-268435455.999999999, 268435455.999999999]": {Lo: 4 - impl.MaxFix, Hi: impl.MaxFix - 4},
	} {
		got, ok := impl.ReadInterval(s)
		is(t, "ReadInterval "+s, got, want)
		is(t, "ReadInterval "+s, ok, true)
	}
}

func TestOtherTextsAreNoIntervals(t *testing.T) {
	for _, s := range []string{
		"", " ", "[", "]", "[]", "[, ]", ", ", "[1, ]", "[, 1]", "[1]", "1", "1, 2", "[1, 2", "1, 2]", "[[1, 2]]", "[1, 2]]", "[[1, 2]",
		"[1,2]", "[1,  2]", "[1 , 2]", "[ 1, 2]", "[1, 2 ]", " [1, 2]", "[1, 2] ", "[1, 2]\n", "(1, 2)", "[1; 2]", "[1, 2, 3]", "[1, 2, ]",
		"[2, 1]", "[0.1, 0.0]", "[0.100000001, 0.1]", "[1, -1]", "[0, -0.000000001]",
		"[-0, 0]", "[0, -0]", "[-0.0, 1]", "[00, 1]", "[0, 01]", "[1., 2]", "[.5, 1]", "[0, 1e3]", "[0, 0.1234567890]", "[+1, 2]", "[a, b]",
		"[0, 268435456]", "[-268435456, 0]", "[-268435456.000000000, 268435456.000000000]", "[268435456, 268435456]",
		"[0, 268435457]", "[-268435457, 0]", "[0, 18446744073709551617]", "[-268435456.000000001, 0]",
		"Whole", "WHOLE", " whole", "whole ", "whol", "wholee", "[whole]", "[whole, whole]", "[0, whole]", "whole\x00",
		"\xff", "[0\xff, 1]", strings.Repeat("[", 1000), "[0, " + strings.Repeat("0", 1000) + "]",
	} {
		got, ok := impl.ReadInterval(s)
		is(t, fmt.Sprintf("ReadInterval(%q)", s), got, impl.Interval{})
		is(t, fmt.Sprintf("ReadInterval(%q)", s), ok, false)
	}
}
