package tests

import (
	"fmt"
	"math"
	"math/big"
	"math/rand/v2"
	"sync"
	"testing"

	"loop.example/g00880/impl"
)

// The approximate numbers of QuarterOf, and the greatest number of quarter
// turns that is the nearest one to an angle.
const (
	quarter    = 6746518852
	eighth     = 3373259426
	mostTurned = 163
)

// isAngle reports whether a number is an angle.
func isAngle(n int64) bool { return -impl.MaxAngle <= n && n <= impl.MaxAngle }

// angles returns angles near multiples of an eighth turn, near places where the
// nearest quarter turn changes, and near the limits, and some of all sizes, the
// same ones in each run.
func angles() []int64 {
	list := []int64{1000, impl.Unit - 1, impl.Unit, impl.Unit + 1, impl.MaxAngle - 1, impl.MaxAngle}
	for k := int64(0); k <= 2*mostTurned+1; k++ {
		turned, _ := times(quarterTurns(k), realOf(impl.Unit/2)).Int64()
		for d := int64(-2); d <= 3; d++ {
			list = append(list, turned+d, k*quarter-eighth+d)
		}
	}
	random := rand.New(rand.NewPCG(11, 12))
	for range 3000 {
		list = append(list, random.Int64N(impl.MaxAngle+1)>>random.IntN(40))
	}
	var both []int64
	for _, n := range list {
		if isAngle(n) {
			both = append(both, n, -n)
		}
	}
	return both
}

// noAngles returns numbers that are no angles.
func noAngles() []int64 {
	list := []int64{impl.MaxAngle + 1, -impl.MaxAngle - 1, impl.MaxAngle + 2, -impl.MaxAngle - 2, impl.MaxAngle + quarter}
	for _, n := range append(numbers(), fixes()...) {
		if !isAngle(n) {
			list = append(list, n)
		}
	}
	return list
}

// ring is the interval from -1 to 1.
var ring = impl.Interval{Lo: -impl.Unit, Hi: impl.Unit}

// exactly returns the interval of one number.
func exactly(n int64) impl.Interval { return impl.Interval{Lo: n, Hi: n} }

// nearestQuarter returns what QuarterOf should return for an angle.
func nearestQuarter(n int64) int64 {
	k, _ := floorOf(big.NewInt(n+eighth), big.NewInt(quarter))
	return k.Int64()
}

func TestLimitsOfAngles(t *testing.T) {
	is(t, "MaxAngle", impl.MaxAngle, 256*impl.Unit)
	is(t, "TrigTerms", impl.TrigTerms, 8)
}

func TestNearestQuarterTurns(t *testing.T) {
	for _, n := range angles() {
		name, k := fmt.Sprintf("QuarterOf(%d)", n), impl.QuarterOf(n)
		is(t, name, k, nearestQuarter(n))
		// The rest is small enough for the series.
		rest := minus(valueOf(n), quarterTurns(k))
		if rest.Abs(rest).Cmp(over(realOf(786), realOf(1000))) > 0 {
			t.Errorf("%s: %d is far from the angle", name, k)
		}
	}
	for k := int64(1 - mostTurned); k <= mostTurned; k++ {
		first := k*quarter - eighth
		is(t, fmt.Sprintf("QuarterOf(%d)", first), impl.QuarterOf(first), k)
		is(t, fmt.Sprintf("QuarterOf(%d)", first-1), impl.QuarterOf(first-1), k-1)
	}
	for n, want := range map[int64]int64{
		0: 0, 1: 0, -1: 0, 3373259425: 0, 3373259426: 1, -3373259426: 0, -3373259427: -1, quarter: 1, -quarter: -1,
		impl.MaxAngle: mostTurned, -impl.MaxAngle: -mostTurned,
	} {
		is(t, fmt.Sprintf("QuarterOf(%d)", n), impl.QuarterOf(n), want)
	}
	for _, n := range noAngles() {
		is(t, fmt.Sprintf("QuarterOf(%d)", n), impl.QuarterOf(n), 0)
	}
}

// wantSeries returns the value of a series of which the last one of the first
// factors, which differ by 2, is given.
func wantSeries(x impl.Interval, last int64) impl.Interval {
	one := impl.Integer(1)
	s := one
	for a := last; a > 0; a -= 2 {
		s = impl.SubI(one, impl.MulI(impl.DivI(impl.SqrI(x), impl.Integer(a*(a+1))), s))
	}
	return s
}

// wantSinSeries returns what SinSeries should return for a part of the ring.
func wantSinSeries(x impl.Interval) impl.Interval {
	return impl.AddI(impl.MulI(x, wantSeries(x, 16)), impl.Interval{Lo: -1, Hi: 1})
}

// wantCosSeries returns what CosSeries should return for a part of the ring.
func wantCosSeries(x impl.Interval) impl.Interval {
	return impl.AddI(wantSeries(x, 15), impl.Interval{Lo: -1, Hi: 1})
}

func TestSeriesEncloseSinesOfTheRing(t *testing.T) {
	ends := []int64{
		-impl.Unit, 1 - impl.Unit, -eighth, -impl.Unit / 2, -1000, -3, -1, 0, 1, 2, 1001, impl.Unit / 3, eighth,
		4286646732, 4292528193, 4293851028, 4294855704, 4294831779, 4294928291, // a change of the last term is seen
		impl.Unit - 1, impl.Unit,
	}
	for i, lo := range ends {
		for _, hi := range ends[i:] {
			x := impl.Interval{Lo: lo, Hi: hi}
			sines, cosines := impl.SinSeries(x), impl.CosSeries(x)
			is(t, fmt.Sprint("SinSeries", x), sines, wantSinSeries(x))
			is(t, fmt.Sprint("CosSeries", x), cosines, wantCosSeries(x))
			for _, n := range members(x) {
				sine, cosine := sineAndCosine(valueOf(n))
				contains(t, fmt.Sprint("SinSeries", x, n), sines, sine)
				contains(t, fmt.Sprint("CosSeries", x, n), cosines, cosine)
			}
			if lo == hi {
				isNarrow(t, fmt.Sprint("SinSeries", x), sines, 8)
				isNarrow(t, fmt.Sprint("CosSeries", x), cosines, 8)
			}
		}
	}
	is(t, "SinSeries of 0", impl.SinSeries(impl.Interval{}), impl.Interval{Lo: -1, Hi: 1})
	is(t, "CosSeries of 0", impl.CosSeries(impl.Interval{}), impl.Interval{Lo: impl.Unit - 1, Hi: impl.Unit + 1})
}

func TestSeriesOutsideOfTheRingAreWhole(t *testing.T) {
	list := append(wholes(),
		impl.Interval{Lo: 0, Hi: impl.Unit + 1}, impl.Interval{Lo: -impl.Unit - 1, Hi: 0},
		impl.Interval{Lo: -impl.Unit, Hi: impl.Unit + 1}, impl.Interval{Lo: -impl.Unit - 1, Hi: impl.Unit},
		exactly(impl.Unit+1), exactly(-impl.Unit-1))
	for _, x := range boundedIntervals() {
		if x.Lo < -impl.Unit || x.Hi > impl.Unit {
			list = append(list, x)
		}
	}
	for _, x := range list {
		is(t, fmt.Sprint("SinSeries", x), impl.SinSeries(x), whole)
		is(t, fmt.Sprint("CosSeries", x), impl.CosSeries(x), whole)
	}
}

// cut returns the part of a bounded interval within the ring.
func cut(x impl.Interval) impl.Interval {
	return impl.Interval{Lo: max(x.Lo, -impl.Unit), Hi: min(x.Hi, impl.Unit)}
}

// wantSinAndCos returns what SinAt and CosAt should return for an angle.
func wantSinAndCos(n int64) (impl.Interval, impl.Interval) {
	k := nearestQuarter(n)
	rest := impl.SubI(exactly(n), impl.TurnI(k))
	sine, cosine := wantSinSeries(rest), wantCosSeries(rest)
	switch (k%4 + 4) % 4 {
	case 0:
		return cut(sine), cut(cosine)
	case 1:
		return cut(cosine), cut(impl.NegI(sine))
	case 2:
		return cut(impl.NegI(sine)), cut(impl.NegI(cosine))
	}
	return cut(impl.NegI(cosine)), cut(sine)
}

func TestSinesOfAnglesAreEnclosed(t *testing.T) {
	for _, n := range angles() {
		sine, cosine := impl.SinAt(n), impl.CosAt(n)
		sinName, cosName := fmt.Sprintf("SinAt(%d)", n), fmt.Sprintf("CosAt(%d)", n)
		wantSine, wantCosine := wantSinAndCos(n)
		is(t, sinName, sine, wantSine)
		is(t, cosName, cosine, wantCosine)
		realSine, realCosine := sineAndCosine(valueOf(n))
		contains(t, sinName, sine, realSine)
		contains(t, cosName, cosine, realCosine)
		isNarrow(t, sinName, sine, 8)
		isNarrow(t, cosName, cosine, 8)
	}
	is(t, "SinAt(0)", impl.SinAt(0), impl.Interval{Lo: -1, Hi: 1})
	is(t, "CosAt(0)", impl.CosAt(0), impl.Interval{Lo: 4294967295, Hi: 4294967296})
	for _, n := range noAngles() {
		is(t, fmt.Sprintf("SinAt(%d)", n), impl.SinAt(n), ring)
		is(t, fmt.Sprintf("CosAt(%d)", n), impl.CosAt(n), ring)
	}
}

func TestSineAndCosineLieOnTheUnitCircle(t *testing.T) {
	for _, n := range angles() {
		sum := impl.AddI(impl.SqrI(impl.SinAt(n)), impl.SqrI(impl.CosAt(n)))
		name := fmt.Sprintf("the sum of the squares for %d", n)
		is(t, name, impl.HasI(sum, impl.Unit), true)
		isNarrow(t, name, sum, 24)
	}
}

func TestSineAndCosineFollowSumsOfAngles(t *testing.T) {
	list := angles()
	for i, a := range list {
		b := list[(i*13+5)%len(list)]
		if !isAngle(a + b) {
			continue
		}
		sa, ca, sb, cb := impl.SinAt(a), impl.CosAt(a), impl.SinAt(b), impl.CosAt(b)
		sine := impl.AddI(impl.MulI(sa, cb), impl.MulI(ca, sb))
		cosine := impl.SubI(impl.MulI(ca, cb), impl.MulI(sa, sb))
		name := fmt.Sprintf(" of %d and %d", a, b)
		isNarrow(t, "the sine"+name, sine, 32)
		isNarrow(t, "the cosine"+name, cosine, 32)
		is(t, "the sine"+name, impl.OverlapI(sine, impl.SinAt(a+b)), true)
		is(t, "the cosine"+name, impl.OverlapI(cosine, impl.CosAt(a+b)), true)
	}
}

// angleIntervals returns intervals between two angles that begin, end, or begin
// and end near the enclosure of a quarter turn, that are more than a turn, and
// some of all sizes, the same ones in each run.
func angleIntervals() []impl.Interval {
	list := []impl.Interval{
		{}, ring, {Lo: 0, Hi: 21000000000}, {Lo: 0, Hi: 4*quarter + 2}, {Lo: 5, Hi: 9 * quarter}, {Lo: -impl.MaxAngle, Hi: impl.MaxAngle},
		{Lo: 0, Hi: impl.MaxAngle}, {Lo: -impl.MaxAngle, Hi: 0}, exactly(impl.MaxAngle), exactly(-impl.MaxAngle),
	}
	for _, k := range []int64{-163, -162, -161, -160, -5, -4, -3, -2, -1, 0, 1, 2, 3, 4, 5, 37, 98, 160, 161, 162, 163} {
		turn := impl.TurnI(k)
		for d := int64(-3); d <= 3; d++ {
			for _, length := range []int64{0, 1, 2, 1000, impl.Unit, quarter, 2 * quarter, 3*quarter - 7, 4 * quarter} {
				list = append(list, impl.Interval{Lo: turn.Hi + d, Hi: turn.Hi + d + length}, impl.Interval{Lo: turn.Lo + d - length, Hi: turn.Lo + d})
			}
		}
	}
	random := rand.New(rand.NewPCG(13, 14))
	for range 1000 {
		lo := random.Int64N(2*impl.MaxAngle+1) - impl.MaxAngle
		list = append(list, impl.Interval{Lo: lo, Hi: lo + random.Int64N(impl.MaxAngle)>>random.IntN(40)})
	}
	var between []impl.Interval
	for _, x := range list {
		if isAngle(x.Lo) && isAngle(x.Hi) {
			between = append(between, x)
		}
	}
	return between
}

// turns returns the enclosures of all numbers of quarter turns, from the least
// number on.
var turns = sync.OnceValue(func() []impl.Interval {
	var list []impl.Interval
	for k := int64(-impl.MaxTurns); k <= impl.MaxTurns; k++ {
		list = append(list, impl.TurnI(k))
	}
	return list
})

// turnsIn returns the numbers of quarter turns whose enclosures overlap x, found
// among all of them.
func turnsIn(x impl.Interval) []int64 {
	var list []int64
	for i, turn := range turns() {
		if turn.Lo <= x.Hi && x.Lo <= turn.Hi {
			list = append(list, int64(i-impl.MaxTurns))
		}
	}
	return list
}

// wantSines returns what SinI should return for an interval between two angles,
// and, with CosAt and 0, what CosI should return.
func wantSines(x impl.Interval, at func(n int64) impl.Interval, top int64) impl.Interval {
	result := impl.HullI(at(x.Lo), at(x.Hi))
	for _, k := range turnsIn(x) {
		switch ((k-top)%4 + 4) % 4 {
		case 0:
			result = impl.HullI(result, impl.Integer(1))
		case 2:
			result = impl.HullI(result, impl.Integer(-1))
		}
	}
	return result
}

// wantTangents returns what TanI should return for an interval between two
// angles.
func wantTangents(x impl.Interval) impl.Interval {
	for _, k := range turnsIn(x) {
		if k%2 != 0 {
			return whole
		}
	}
	return impl.HullI(impl.DivI(impl.SinAt(x.Lo), impl.CosAt(x.Lo)), impl.DivI(impl.SinAt(x.Hi), impl.CosAt(x.Hi)))
}

func TestFunctionsOfIntervalsFollowTheirEnds(t *testing.T) {
	for _, x := range angleIntervals() {
		is(t, fmt.Sprint("SinI", x), impl.SinI(x), wantSines(x, impl.SinAt, 1))
		is(t, fmt.Sprint("CosI", x), impl.CosI(x), wantSines(x, impl.CosAt, 0))
		is(t, fmt.Sprint("TanI", x), impl.TanI(x), wantTangents(x))
	}
}

// anglesIn returns some angles of an interval: the ends, some between them, and
// those next to quarter turns.
func anglesIn(x impl.Interval) []int64 {
	list := members(x)
	for _, k := range turnsIn(x) {
		turn := impl.TurnI(k)
		for _, n := range []int64{turn.Lo - 1, turn.Lo, turn.Hi, turn.Hi + 1} {
			if x.Lo <= n && n <= x.Hi && len(list) < 40 {
				list = append(list, n)
			}
		}
	}
	return list
}

func TestFunctionsOfIntervalsEncloseThoseOfTheirNumbers(t *testing.T) {
	for _, x := range angleIntervals() {
		sines, cosines, tangents := impl.SinI(x), impl.CosI(x), impl.TanI(x)
		for _, n := range anglesIn(x) {
			sine, cosine := sineAndCosine(valueOf(n))
			contains(t, fmt.Sprint("SinI", x, n), sines, sine)
			contains(t, fmt.Sprint("CosI", x, n), cosines, cosine)
			contains(t, fmt.Sprint("TanI", x, n), tangents, over(sine, cosine))
		}
		// A quarter turn itself is no fix.
		for _, k := range turnsIn(x) {
			turn := quarterTurns(k)
			if turn.Cmp(valueOf(x.Lo)) < 0 || turn.Cmp(valueOf(x.Hi)) > 0 {
				continue
			}
			top := int64(impl.Unit) * (1 - k&2)
			if k%2 != 0 {
				is(t, fmt.Sprint("SinI has the extreme", x, k), impl.HasI(sines, top), true)
				is(t, fmt.Sprint("TanI has a pole", x, k), tangents, whole)
			} else {
				is(t, fmt.Sprint("CosI has the extreme", x, k), impl.HasI(cosines, top), true)
			}
		}
		for _, part := range []impl.Interval{sines, cosines} {
			is(t, fmt.Sprint("the result for ", x, " is in the ring"), impl.InsideI(part, ring), true)
		}
	}
}

func TestFunctionsOfNarrowIntervalsAreNarrow(t *testing.T) {
	for _, n := range angles() {
		x := impl.Interval{Lo: n, Hi: min(n+10, impl.MaxAngle)}
		isNarrow(t, fmt.Sprint("SinI", x), impl.SinI(x), 20)
		isNarrow(t, fmt.Sprint("CosI", x), impl.CosI(x), 20)
	}
}

func TestFunctionsOfIntervalsAtTheEdges(t *testing.T) {
	turn := impl.TurnI(1)
	for _, c := range []struct {
		x                        impl.Interval
		sines, cosines, tangents impl.Interval
	}{
		{impl.Interval{Lo: 0, Hi: 21000000000}, ring, ring, whole},
		{impl.Interval{Lo: 0, Hi: turn.Lo}, impl.Interval{Lo: -1, Hi: impl.Unit}, impl.Interval{Lo: -1, Hi: impl.Unit}, whole},
		{impl.Interval{Lo: -turn.Lo, Hi: 0}, impl.Interval{Lo: -impl.Unit, Hi: 1}, impl.Interval{Lo: -1, Hi: impl.Unit}, whole},
		{impl.Interval{Lo: -turn.Lo, Hi: turn.Lo}, ring, impl.Interval{Lo: -1, Hi: impl.Unit}, whole},
	} {
		is(t, fmt.Sprint("SinI", c.x), impl.SinI(c.x), c.sines)
		is(t, fmt.Sprint("CosI", c.x), impl.CosI(c.x), c.cosines)
		is(t, fmt.Sprint("TanI", c.x), impl.TanI(c.x), c.tangents)
	}
	half := impl.RadiansOf(300000000)
	is(t, "the sine of 30 degrees", impl.HasI(impl.SinI(half), impl.Unit/2), true)
	is(t, "the cosine of 60 degrees", impl.HasI(impl.CosI(impl.RadiansOf(600000000)), impl.Unit/2), true)
	is(t, "the tangent of 45 degrees", impl.HasI(impl.TanI(impl.RadiansOf(450000000)), impl.Unit), true)
	is(t, "the tangent of -135 degrees", impl.HasI(impl.TanI(impl.RadiansOf(-1350000000)), impl.Unit), true)
	isNarrow(t, "the sine of 30 degrees", impl.SinI(half), 12)
	isNarrow(t, "the tangent of 45 degrees", impl.TanI(impl.RadiansOf(450000000)), 30)
	isNarrow(t, "the tangent of -135 degrees", impl.TanI(impl.RadiansOf(-1350000000)), 30)
}

func TestFunctionsOfOtherIntervalsAreNotKnown(t *testing.T) {
	list := append(wholes(),
		impl.Interval{Lo: 0, Hi: impl.MaxAngle + 1}, impl.Interval{Lo: -impl.MaxAngle - 1, Hi: 0},
		impl.Interval{Lo: impl.MaxAngle, Hi: impl.MaxAngle + 1}, impl.Interval{Lo: -impl.MaxAngle - 1, Hi: -impl.MaxAngle},
		exactly(impl.MaxAngle+1), exactly(-impl.MaxAngle-1), exactly(math.MaxInt64), exactly(math.MinInt64),
		impl.Interval{Lo: 1000, Hi: 999}, impl.Interval{Lo: quarter, Hi: 0})
	for _, x := range boundedIntervals() {
		if !isAngle(x.Lo) || !isAngle(x.Hi) {
			list = append(list, x)
		}
	}
	for _, x := range list {
		is(t, fmt.Sprint("SinI", x), impl.SinI(x), ring)
		is(t, fmt.Sprint("CosI", x), impl.CosI(x), ring)
		is(t, fmt.Sprint("TanI", x), impl.TanI(x), whole)
	}
}
