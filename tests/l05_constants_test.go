package tests

import (
	"fmt"
	"math"
	"math/big"
	"math/rand/v2"
	"testing"

	"loop.example/g00880/impl"
)

func TestConstantsHaveTheirMeaning(t *testing.T) {
	scaled, _ := times(realPi(), new(big.Float).SetInt(power(61))).Int(nil)
	is(t, "PiScaled", impl.PiScaled, scaled.Int64())
	is(t, "UnitScaled", impl.UnitScaled, 1800000000<<29)
	is(t, "MaxTurns", impl.MaxTurns, 4096)
	is(t, "MaxUnits", impl.MaxUnits, 36000000000)
	is(t, "MaxTerms", impl.MaxTerms, 40)
	is(t, "MaxCotangent", impl.MaxCotangent, 1000)
}

// quotientDown returns a * b / d, rounded down, for a positive d.
func quotientDown(a, b, d int64) int64 {
	q, _ := floorOf(new(big.Int).Mul(big.NewInt(a), big.NewInt(b)), big.NewInt(d))
	return q.Int64()
}

// mirrored returns an interval for a positive number, the opposite one for its
// negative, and 0 for 0.
func mirrored(n, lo, hi int64) impl.Interval {
	switch {
	case n < 0:
		return impl.Interval{Lo: -hi, Hi: -lo}
	case n == 0:
		return impl.Interval{}
	}
	return impl.Interval{Lo: lo, Hi: hi}
}

// size returns an absolute value.
func size(n int64) int64 { return max(n, -n) }

func TestMultiplesOfAQuarterTurnAreEnclosed(t *testing.T) {
	for k := int64(-impl.MaxTurns); k <= impl.MaxTurns; k++ {
		name, got := fmt.Sprintf("TurnI(%d)", k), impl.TurnI(k)
		lo := quotientDown(size(k), impl.PiScaled, 1<<30)
		is(t, name, got, mirrored(k, lo, lo+1))
		contains(t, name, got, quarterTurns(k))
		isNarrow(t, name, got, 1)
	}
	is(t, "TurnI(0)", impl.TurnI(0), impl.Interval{})
	is(t, "TurnI(1)", impl.TurnI(1), impl.Interval{Lo: 6746518852, Hi: 6746518853})
	is(t, "TurnI(-1)", impl.TurnI(-1), impl.Interval{Lo: -6746518853, Hi: -6746518852})
	is(t, "PiI", impl.PiI(), impl.Interval{Lo: 13493037704, Hi: 13493037705})
}

func TestOtherMultiplesAreWhole(t *testing.T) {
	list := append(numbers(), fixes()...)
	list = append(list, impl.MaxTurns+1, -impl.MaxTurns-1, impl.MaxUnits+1, -impl.MaxUnits-1)
	for _, n := range list {
		if n < -impl.MaxTurns || n > impl.MaxTurns {
			is(t, fmt.Sprintf("TurnI(%d)", n), impl.TurnI(n), whole)
		}
		if n < -impl.MaxUnits || n > impl.MaxUnits {
			is(t, fmt.Sprintf("RadiansOf(%d)", n), impl.RadiansOf(n), whole)
		}
	}
}

// sharpUnits are angles in units for which the quotients by UnitScaled of the
// products with PiScaled, with PiScaled + 1 or with PiScaled + 2, rounded down,
// are different.
var sharpUnits = []int64{1518629701, 1978068863, 35847361447, 35885863964, 35962868998, 35987673662, 35910668628, 35973975809}

// unitAngles returns angles in units near 0, near the limits and near multiples
// of some degrees, and some of all sizes, the same ones in each run.
func unitAngles() []int64 {
	const degree = 10000000
	list := []int64{0, impl.MaxUnits, impl.MaxUnits - 1, impl.MaxUnits - 2}
	list = append(list, sharpUnits...)
	for n := range int64(40) {
		list = append(list, n)
	}
	for n := int64(15); n <= 3600; n += 15 {
		list = append(list, n*degree-1, n*degree, n*degree+1)
	}
	random := rand.New(rand.NewPCG(9, 10))
	for range 2000 {
		list = append(list, random.Int64N(impl.MaxUnits+1)>>random.IntN(30))
	}
	var both []int64
	for _, n := range list {
		if n <= impl.MaxUnits {
			both = append(both, n, -n)
		}
	}
	return both
}

func TestAnglesInUnitsAreEnclosed(t *testing.T) {
	for _, n := range unitAngles() {
		name, got := fmt.Sprintf("RadiansOf(%d)", n), impl.RadiansOf(n)
		lo := quotientDown(size(n), impl.PiScaled, impl.UnitScaled)
		hi := quotientDown(size(n), impl.PiScaled+1, impl.UnitScaled) + 1
		is(t, name, got, mirrored(n, lo, hi))
		contains(t, name, got, times(realPi(), over(realOf(n), realOf(1800000000))))
	}
	is(t, "a quarter turn", impl.RadiansOf(900000000), impl.Interval{Lo: 6746518852, Hi: 6746518853})
	is(t, "no turn", impl.RadiansOf(0), impl.Interval{})
	is(t, "a unit", impl.RadiansOf(1), impl.Interval{Lo: 7, Hi: 8})
	is(t, "a negative unit", impl.RadiansOf(-1), impl.Interval{Lo: -8, Hi: -7})
}

func TestAnglesInUnitsAreRestored(t *testing.T) {
	for _, n := range unitAngles() {
		lower, upper, ok := impl.UnitsOf(impl.RadiansOf(n))
		name := fmt.Sprintf("%d units are restored as %d to %d", n, lower, upper)
		// The enclosures of the limits contain angles beyond them.
		within := size(n) < impl.MaxUnits
		is(t, name, ok, within)
		if within && (lower > n || upper < n || n-lower > 1 || upper-n > 1) {
			t.Error(name)
		}
		if !within && (lower != 0 || upper != 0) {
			t.Error(name)
		}
	}
	lower, upper, ok := impl.UnitsOf(impl.RadiansOf(0))
	is(t, "the lower bound for 0", lower, 0)
	is(t, "the upper bound for 0", upper, 0)
	is(t, "UnitsOf ok for 0", ok, true)
}

// wantUnits returns what UnitsOf should return.
func wantUnits(x impl.Interval) (int64, int64, bool) {
	if x.Lo > x.Hi || x.Lo <= -impl.MaxFix || x.Hi >= impl.MaxFix {
		return 0, 0, false
	}
	below, above := big.NewInt(impl.PiScaled), big.NewInt(impl.PiScaled)
	if x.Lo > 0 {
		below.Add(below, big.NewInt(1))
	}
	if x.Hi < 0 {
		above.Add(above, big.NewInt(1))
	}
	lower, _ := floorOf(new(big.Int).Mul(big.NewInt(x.Lo), big.NewInt(impl.UnitScaled)), below)
	upper := ceilingOf(new(big.Int).Mul(big.NewInt(x.Hi), big.NewInt(impl.UnitScaled)), above)
	limit := big.NewInt(impl.MaxUnits)
	if lower.Cmp(new(big.Int).Neg(limit)) < 0 || upper.Cmp(limit) > 0 {
		return 0, 0, false
	}
	return lower.Int64(), upper.Int64(), true
}

// isUnits compares UnitsOf with what it should return, and requires that no
// angle of x is beyond the bounds.
func isUnits(t *testing.T, x impl.Interval) {
	t.Helper()
	name := fmt.Sprint("UnitsOf", x)
	lower, upper, ok := impl.UnitsOf(x)
	wantLower, wantUpper, wantOk := wantUnits(x)
	is(t, name+" lower", lower, wantLower)
	is(t, name+" upper", upper, wantUpper)
	is(t, name+" ok", ok, wantOk)
	if !ok {
		return
	}
	unit := over(realPi(), realOf(1800000000))
	if times(unit, realOf(lower)).Cmp(valueOf(x.Lo)) > 0 || times(unit, realOf(upper)).Cmp(valueOf(x.Hi)) < 0 {
		t.Errorf("%s: angles are not from %d to %d", name, lower, upper)
	}
}

func TestIntervalsAreBoundedInUnits(t *testing.T) {
	for _, x := range append(boundedIntervals(), wholes()...) {
		isUnits(t, x)
	}
	ends := []int64{0, 1, 2, 7, 8, 14, 15, 16, 6746518852, 6746518853, 26986075409, impl.Unit}
	for _, n := range unitAngles() {
		for _, k := range []int64{-1, 0, 1} {
			end := impl.RadiansOf(n).Lo + k
			ends = append(ends, end)
		}
	}
	for i, lo := range ends {
		hi := ends[(i*7+3)%len(ends)]
		for _, x := range []impl.Interval{{Lo: lo, Hi: lo}, {Lo: lo, Hi: lo + 1}, {Lo: lo, Hi: hi}, {Lo: -hi, Hi: -lo}} {
			isUnits(t, x)
		}
	}
}

func TestUnitsAtTheLimits(t *testing.T) {
	// The greatest fix of which the upper bound is not beyond the limit.
	const limit = int64(impl.MaxUnits)
	end := quotientDown(limit, impl.PiScaled, impl.UnitScaled)
	for _, c := range []struct {
		lo, hi, lower, upper int64
		ok                   bool
	}{
		{-end, end, -limit, limit, true},
		{end, end, limit - 1, limit, true},
		{-end, -end, -limit, 1 - limit, true},
		{0, end, 0, limit, true},
		{-end, 0, -limit, 0, true},
		{-end - 1, end, 0, 0, false},
		{-end, end + 1, 0, 0, false},
		{0, end + 1, 0, 0, false},
		{-end - 1, 0, 0, 0, false},
		{end + 1, end + 1, 0, 0, false},
		{-end - 1, -end - 1, 0, 0, false},
		{end, end + 1, 0, 0, false},
		{-end - 1, -end, 0, 0, false},
		{1 - impl.MaxFix, impl.MaxFix - 1, 0, 0, false},
		{impl.MaxFix - 1, impl.MaxFix - 1, 0, 0, false},
		{1 - impl.MaxFix, 1 - impl.MaxFix, 0, 0, false},
	} {
		x := impl.Interval{Lo: c.lo, Hi: c.hi}
		lower, upper, ok := impl.UnitsOf(x)
		is(t, fmt.Sprint("the lower bound of ", x), lower, c.lower)
		is(t, fmt.Sprint("the upper bound of ", x), upper, c.upper)
		is(t, fmt.Sprint("UnitsOf ok of ", x), ok, c.ok)
		isUnits(t, x)
	}
}

func TestDegrees(t *testing.T) {
	const greatest = (impl.MaxFix - 1) / 180
	list := append(boundedIntervals(), wholes()...)
	list = append(list, impl.Interval{Lo: -greatest, Hi: greatest}, impl.Interval{Lo: 0, Hi: greatest + 1}, impl.Interval{Lo: -greatest - 1, Hi: 0})
	for _, x := range list {
		name, got := fmt.Sprint("DegreesOf", x), impl.DegreesOf(x)
		is(t, name, got, impl.DivI(impl.MulI(x, impl.Integer(180)), impl.PiI()))
		known := !impl.IsWhole(x) && max(size(x.Lo), size(x.Hi)) <= greatest
		is(t, name+" is known", impl.ValidInterval(got), known)
		if !known {
			is(t, name, got, whole)
			continue
		}
		for _, n := range members(x) {
			contains(t, name, got, over(times(valueOf(n), realOf(180)), realPi()))
		}
	}
}

func TestDegreesOfAnglesInUnits(t *testing.T) {
	for _, n := range unitAngles() {
		name, got := fmt.Sprintf("DegreesOf(RadiansOf(%d))", n), impl.DegreesOf(impl.RadiansOf(n))
		contains(t, name, got, over(realOf(n), realOf(10000000)))
		isNarrow(t, name, got, 1300)
	}
}

// cotangents are the numbers of which all terms of the series are tested.
var cotangents = []int64{2, 3, 4, 5, 7, 10, 57, 239, 999, impl.MaxCotangent}

// wantArc returns what ArcCotangent should return.
func wantArc(n, terms int64) impl.Interval {
	power := impl.Quotient(1, n)
	sum := power
	for k := int64(1); k <= terms; k++ {
		power = impl.DivI(power, impl.Integer(n*n))
		term := impl.DivI(power, impl.Integer(2*k+1))
		if k == terms {
			term = impl.HullI(term, impl.Integer(0))
		}
		if k%2 == 1 {
			sum = impl.SubI(sum, term)
		} else {
			sum = impl.AddI(sum, term)
		}
	}
	return sum
}

func TestSeriesEncloseArcTangents(t *testing.T) {
	for _, n := range cotangents {
		for terms := int64(1); terms <= impl.MaxTerms; terms++ {
			name, got := fmt.Sprintf("ArcCotangent(%d, %d)", n, terms), impl.ArcCotangent(n, terms)
			is(t, name, got, wantArc(n, terms))
			contains(t, name, got, arcTangentOf(n))
		}
		isNarrow(t, fmt.Sprintf("ArcCotangent(%d, 20)", n), impl.ArcCotangent(n, 20), 40)
	}
	is(t, "ArcCotangent(2, 1)", impl.ArcCotangent(2, 1), impl.Interval{Lo: 1968526677, Hi: 2147483648})
	is(t, "ArcCotangent(2, 2)", impl.ArcCotangent(2, 2), impl.Interval{Lo: 1968526677, Hi: 1995370224})
}

func TestOtherSeriesAreWhole(t *testing.T) {
	others := []int64{0, -1, -2, -5, -239, math.MinInt64, math.MaxInt64, 1<<32 + 5, 1 << 62}
	for _, terms := range append([]int64{impl.MaxTerms + 1}, others...) {
		for _, n := range cotangents {
			is(t, fmt.Sprintf("ArcCotangent(%d, %d)", n, terms), impl.ArcCotangent(n, terms), whole)
		}
		is(t, fmt.Sprintf("MachinPi(%d)", terms), impl.MachinPi(terms), whole)
		is(t, fmt.Sprintf("EulerPi(%d)", terms), impl.EulerPi(terms), whole)
	}
	for _, n := range append([]int64{1, impl.MaxCotangent + 1}, others...) {
		for _, terms := range []int64{0, 1, 5, impl.MaxTerms, impl.MaxTerms + 1, math.MinInt64, math.MaxInt64} {
			is(t, fmt.Sprintf("ArcCotangent(%d, %d)", n, terms), impl.ArcCotangent(n, terms), whole)
		}
	}
}

func TestAllWaysToPiOverlap(t *testing.T) {
	ways := []impl.Interval{impl.PiI(), impl.TurnI(2), impl.NegI(impl.TurnI(-2)), impl.RadiansOf(1800000000)}
	for terms := int64(1); terms <= impl.MaxTerms; terms++ {
		machin, euler := impl.MachinPi(terms), impl.EulerPi(terms)
		is(t, fmt.Sprintf("MachinPi(%d)", terms), machin,
			impl.SubI(impl.MulI(impl.Integer(16), wantArc(5, terms)), impl.MulI(impl.Integer(4), wantArc(239, terms))))
		is(t, fmt.Sprintf("EulerPi(%d)", terms), euler,
			impl.AddI(impl.MulI(impl.Integer(4), wantArc(2, terms)), impl.MulI(impl.Integer(4), wantArc(3, terms))))
		ways = append(ways, machin, euler)
	}
	for i, a := range ways {
		contains(t, fmt.Sprint("the way to pi ", i), a, realPi())
		is(t, fmt.Sprint("the way to pi is bounded ", i), impl.ValidInterval(a), true)
		for _, b := range ways {
			is(t, fmt.Sprint("OverlapI", a, b), impl.OverlapI(a, b), true)
		}
	}
	isNarrow(t, "MachinPi(20)", impl.MachinPi(20), 500)
	isNarrow(t, "EulerPi(40)", impl.EulerPi(40), 500)
}
