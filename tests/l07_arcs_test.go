package tests

import (
	"fmt"
	"math/big"
	"math/rand/v2"
	"testing"

	"loop.example/g00880/impl"
)

// arcEnd is the greatest number of which ArcSeries encloses the arc tangent.
const arcEnd = 1 << 30

// The enclosure of a quarter turn, and the half circle.
var (
	quarterTurn = impl.Interval{Lo: quarter, Hi: quarter + 1}
	halfCircle  = impl.Interval{Lo: -quarter - 1, Hi: quarter + 1}
)

// isOpenFix reports whether a number is greater than -MaxFix and less than MaxFix.
func isOpenFix(n int64) bool { return -impl.MaxFix < n && n < impl.MaxFix }

// wantArcSeries returns what ArcSeries should return for numbers that are small
// enough.
func wantArcSeries(x impl.Interval) impl.Interval {
	y, s := impl.SqrI(x), impl.Quotient(1, 21)
	for _, odd := range []int64{19, 17, 15, 13, 11, 9, 7, 5, 3, 1} {
		s = impl.SubI(impl.Quotient(1, odd), impl.MulI(y, s))
	}
	return impl.AddI(impl.MulI(x, s), impl.Interval{Lo: -1, Hi: 1})
}

func TestNumberOfArcTerms(t *testing.T) { is(t, "ArcTerms", impl.ArcTerms, 10) }

func TestArcSeriesEnclosesArcTangents(t *testing.T) {
	ends := []int64{
		-arcEnd, -arcEnd + 1, -arcEnd + 2, -arcEnd / 3, -1000, -2, -1, 0, 1, 2, 3, 1001, arcEnd / 5, arcEnd / 2,
		1011672555, 1050886376, 1034340238, 1041653220, 1070903746, // a change of the last terms is seen
		arcEnd - 2, arcEnd - 1, arcEnd,
	}
	random := rand.New(rand.NewPCG(15, 16))
	for range 20 {
		ends = append(ends, random.Int64N(2*arcEnd+1)-arcEnd)
	}
	for _, lo := range ends {
		for _, hi := range ends {
			if lo > hi {
				continue
			}
			x := impl.Interval{Lo: lo, Hi: hi}
			name, arcs := fmt.Sprint("ArcSeries", x), impl.ArcSeries(x)
			is(t, name, arcs, wantArcSeries(x))
			for _, n := range members(x) {
				contains(t, name, arcs, arcTangent(valueOf(n)))
			}
			if lo == hi {
				isNarrow(t, name, arcs, 8)
			}
		}
	}
	is(t, "ArcSeries of 0", impl.ArcSeries(impl.Interval{}), impl.Interval{Lo: -1, Hi: 1})
}

func TestArcSeriesOfGreaterNumbersIsWhole(t *testing.T) {
	list := append(wholes(),
		impl.Interval{Lo: 0, Hi: arcEnd + 1}, impl.Interval{Lo: -arcEnd - 1, Hi: 0},
		impl.Interval{Lo: -arcEnd, Hi: arcEnd + 1}, impl.Interval{Lo: -arcEnd - 1, Hi: arcEnd},
		impl.Interval{Lo: -arcEnd - 1, Hi: arcEnd + 1}, impl.Interval{Lo: arcEnd, Hi: arcEnd + 1},
		exactly(arcEnd+1), exactly(-arcEnd-1), ring, exactly(impl.Unit), exactly(-impl.Unit))
	for _, x := range boundedIntervals() {
		if x.Lo < -arcEnd || x.Hi > arcEnd {
			list = append(list, x)
		}
	}
	for _, x := range list {
		is(t, fmt.Sprint("ArcSeries", x), impl.ArcSeries(x), whole)
	}
}

// ringNumbers returns numbers from -Unit to Unit near the places where an arc
// sine or the root on the circle changes its form, and some of all sizes, the
// same ones in each run.
func ringNumbers() []int64 {
	list := []int64{
		0, 1, 2, 3, 5, 1000, arcEnd - 1, arcEnd, arcEnd + 1,
		impl.Unit / 2, impl.Unit/2 + 1, 3037000499, 3037000500, // half, and the root of one half
		impl.Unit - 1000, impl.Unit - 3, impl.Unit - 2, impl.Unit - 1, impl.Unit,
	}
	random := rand.New(rand.NewPCG(17, 18))
	for range 500 {
		n := random.Int64N(impl.Unit) >> random.IntN(30)
		list = append(list, n, impl.Unit-n)
	}
	for _, n := range list {
		list = append(list, -n)
	}
	return list
}

// beyondRing returns numbers that are not from -Unit to Unit.
func beyondRing() []int64 {
	list := []int64{impl.Unit + 1, -impl.Unit - 1, impl.Unit + 2, -impl.Unit - 2}
	for _, n := range append(numbers(), fixes()...) {
		if n < -impl.Unit || n > impl.Unit {
			list = append(list, n)
		}
	}
	return list
}

// wantCircle returns what CircleAt should return for a number of the ring.
func wantCircle(n int64) impl.Interval {
	square := new(big.Int).Mul(big.NewInt(impl.Unit-n), big.NewInt(impl.Unit+n))
	root := new(big.Int).Sqrt(square)
	lo, hi := root.Int64(), root.Int64()
	if new(big.Int).Mul(root, root).Cmp(square) != 0 {
		hi++
	}
	return impl.Interval{Lo: lo, Hi: hi}
}

func TestCircleEnclosesTheOtherSide(t *testing.T) {
	for _, n := range ringNumbers() {
		name, side := fmt.Sprintf("CircleAt(%d)", n), impl.CircleAt(n)
		is(t, name, side, wantCircle(n))
		square := minus(realOf(1), times(valueOf(n), valueOf(n)))
		contains(t, name, side, square.Sqrt(square))
	}
	// The only roots that are exact are those of 1 and 0.
	for n, want := range map[int64]impl.Interval{
		0: exactly(impl.Unit), impl.Unit: {}, -impl.Unit: {}, impl.Unit - 1: {Lo: 92681, Hi: 92682},
		1: {Lo: impl.Unit - 1, Hi: impl.Unit}, -1: {Lo: impl.Unit - 1, Hi: impl.Unit},
	} {
		is(t, fmt.Sprintf("CircleAt(%d)", n), impl.CircleAt(n), want)
	}
	for _, n := range beyondRing() {
		is(t, fmt.Sprintf("CircleAt(%d)", n), impl.CircleAt(n), whole)
	}
}

// wantRingArc returns g(x) of the document for a part x of the ring.
func wantRingArc(x impl.Interval) impl.Interval {
	one := impl.Integer(1)
	for range 2 {
		x = impl.DivI(x, impl.AddI(one, impl.SqrtI(impl.AddI(one, impl.SqrI(x)))))
	}
	return impl.DoubleI(impl.DoubleI(wantArcSeries(x)))
}

// wantAtan returns what AtanAt should return.
func wantAtan(n int64) impl.Interval {
	switch {
	case !isOpenFix(n):
		return halfCircle
	case n < 0:
		return impl.NegI(wantAtan(-n))
	case n > impl.Unit:
		return impl.SubI(quarterTurn, wantRingArc(impl.DivI(impl.Integer(1), exactly(n))))
	}
	return wantRingArc(exactly(n))
}

// arcNumbers returns numbers of which arc tangents are enclosed.
func arcNumbers() []int64 {
	list := []int64{impl.Unit - 1, impl.Unit, impl.Unit + 1, 0, 1, -1}
	for _, n := range append(numbers(), fixes()...) {
		if isOpenFix(n) {
			list = append(list, n)
		}
	}
	random := rand.New(rand.NewPCG(19, 20))
	for range 1000 {
		n := random.Int64N(impl.MaxFix) >> random.IntN(60)
		list = append(list, n, -n)
	}
	return append(list, ringNumbers()...)
}

func TestArcTangentsOfNumbersAreEnclosed(t *testing.T) {
	for _, n := range arcNumbers() {
		name, arc := fmt.Sprintf("AtanAt(%d)", n), impl.AtanAt(n)
		is(t, name, arc, wantAtan(n))
		is(t, name+" by symmetry", impl.AtanAt(-n), impl.NegI(arc))
		contains(t, name, arc, arcTangent(valueOf(n)))
		isNarrow(t, name, arc, 32)
	}
	is(t, "AtanAt(0)", impl.AtanAt(0), impl.Interval{Lo: -4, Hi: 4})
}

func TestArcTangentsOfOtherNumbersAreTheHalfCircle(t *testing.T) {
	is(t, "the half circle", halfCircle, impl.Interval{Lo: -impl.TurnI(1).Hi, Hi: impl.TurnI(1).Hi})
	list := []int64{impl.MaxFix, impl.MaxFix + 1, -impl.MaxFix, -impl.MaxFix - 1}
	for _, n := range append(numbers(), fixes()...) {
		if !isOpenFix(n) {
			list = append(list, n)
		}
	}
	for _, n := range list {
		is(t, fmt.Sprintf("AtanAt(%d)", n), impl.AtanAt(n), halfCircle)
	}
	for _, n := range []int64{impl.MaxFix - 1, 1 - impl.MaxFix} {
		isNarrow(t, fmt.Sprintf("AtanAt(%d)", n), impl.AtanAt(n), 32)
	}
}

// wantAsin returns what AsinAt should return for a number of the ring.
func wantAsin(n int64) impl.Interval {
	tangent := impl.DivI(exactly(n), impl.AddI(impl.Integer(1), wantCircle(n)))
	arc := impl.DoubleI(impl.HullI(wantAtan(tangent.Lo), wantAtan(tangent.Hi)))
	return impl.Interval{Lo: max(arc.Lo, halfCircle.Lo), Hi: min(arc.Hi, halfCircle.Hi)}
}

func TestArcSinesOfNumbersAreEnclosed(t *testing.T) {
	for _, n := range ringNumbers() {
		name, arc := fmt.Sprintf("AsinAt(%d)", n), impl.AsinAt(n)
		is(t, name, arc, wantAsin(n))
		is(t, name+" by symmetry", impl.AsinAt(-n), impl.NegI(arc))
		is(t, name+" is in the half circle", impl.InsideI(arc, halfCircle), true)
		contains(t, name, arc, arcSine(valueOf(n)))
		isNarrow(t, name, arc, 64)
	}
	is(t, "AsinAt(Unit / 2)", impl.OverlapI(impl.AsinAt(impl.Unit/2), impl.RadiansOf(300000000)), true)
	is(t, "AsinAt(Unit)", impl.AsinAt(impl.Unit).Hi, halfCircle.Hi)
	is(t, "AsinAt(-Unit)", impl.AsinAt(-impl.Unit).Lo, halfCircle.Lo)
	for _, n := range beyondRing() {
		is(t, fmt.Sprintf("AsinAt(%d)", n), impl.AsinAt(n), whole)
	}
}

// ringEnds are numbers at, next to and far from the ends of the ring.
var ringEnds = []int64{
	1 - impl.MaxFix, -2 * impl.Unit, -impl.Unit - 2, -impl.Unit - 1, -impl.Unit, 1 - impl.Unit, -impl.Unit / 2, -2, -1, 0, 1, 2,
	impl.Unit / 3, impl.Unit - 1, impl.Unit, impl.Unit + 1, impl.Unit + 2, 3 * impl.Unit, impl.MaxFix - 1,
}

// arcIntervals returns bounded intervals with all pairs of these ends, and others.
func arcIntervals() []impl.Interval {
	list := boundedIntervals()
	for i, lo := range ringEnds {
		for _, hi := range ringEnds[i:] {
			list = append(list, impl.Interval{Lo: lo, Hi: hi})
		}
	}
	random := rand.New(rand.NewPCG(21, 22))
	for range 200 {
		lo := random.Int64N(2*impl.Unit+1) - impl.Unit
		list = append(list, impl.Interval{Lo: lo, Hi: lo + random.Int64N(impl.Unit)>>random.IntN(32)})
	}
	return list
}

func TestArcTangentsOfIntervalsAreEnclosed(t *testing.T) {
	for _, x := range arcIntervals() {
		name, arcs := fmt.Sprint("AtanI", x), impl.AtanI(x)
		is(t, name, arcs, impl.HullI(wantAtan(x.Lo), wantAtan(x.Hi)))
		for _, n := range members(x) {
			contains(t, name, arcs, arcTangent(valueOf(n)))
		}
	}
	for _, x := range wholes() {
		is(t, fmt.Sprint("AtanI", x), impl.AtanI(x), halfCircle)
	}
}

func TestArcSinesOfIntervalsAreEnclosed(t *testing.T) {
	for _, x := range arcIntervals() {
		arcs, others := impl.AsinI(x), impl.AcosI(x)
		name, otherName := fmt.Sprint("AsinI", x), fmt.Sprint("AcosI", x)
		part := cut(x)
		if part.Lo > part.Hi {
			is(t, name, arcs, whole)
			is(t, otherName, others, whole)
			continue
		}
		is(t, name, arcs, impl.HullI(wantAsin(part.Lo), wantAsin(part.Hi)))
		is(t, otherName, others, impl.SubI(quarterTurn, arcs))
		for _, n := range members(part) {
			arc := arcSine(valueOf(n))
			contains(t, name, arcs, arc)
			contains(t, otherName, others, minus(quarterTurns(1), arc))
		}
	}
	all := impl.HullI(wantAsin(-impl.Unit), wantAsin(impl.Unit))
	is(t, "the arc sines of the ring", all, halfCircle)
	for _, x := range wholes() {
		is(t, fmt.Sprint("AsinI", x), impl.AsinI(x), all)
		is(t, fmt.Sprint("AcosI", x), impl.AcosI(x), impl.SubI(quarterTurn, all))
	}
}

func TestArcsOfIntervalsAtTheEndsOfTheRing(t *testing.T) {
	for _, c := range []struct {
		x, part impl.Interval
	}{
		{impl.Interval{Lo: impl.Unit, Hi: 3 * impl.Unit}, exactly(impl.Unit)},
		{impl.Interval{Lo: -3 * impl.Unit, Hi: -impl.Unit}, exactly(-impl.Unit)},
		{impl.Interval{Lo: impl.Unit - 1, Hi: impl.Unit + 1}, impl.Interval{Lo: impl.Unit - 1, Hi: impl.Unit}},
		{impl.Interval{Lo: -impl.Unit - 1, Hi: 1 - impl.Unit}, impl.Interval{Lo: -impl.Unit, Hi: 1 - impl.Unit}},
		{impl.Interval{Lo: -impl.Unit - 1, Hi: impl.Unit + 1}, ring},
		{impl.Interval{Lo: 1 - impl.MaxFix, Hi: impl.MaxFix - 1}, ring},
		{impl.Interval{Lo: 7, Hi: impl.MaxFix - 1}, impl.Interval{Lo: 7, Hi: impl.Unit}},
	} {
		is(t, fmt.Sprint("AsinI", c.x), impl.AsinI(c.x), impl.AsinI(c.part))
		is(t, fmt.Sprint("AcosI", c.x), impl.AcosI(c.x), impl.AcosI(c.part))
		is(t, fmt.Sprint("AsinI", c.x, " is known"), impl.IsWhole(impl.AsinI(c.x)), false)
	}
	for _, x := range []impl.Interval{
		{Lo: impl.Unit + 1, Hi: impl.Unit + 1}, {Lo: impl.Unit + 1, Hi: 2 * impl.Unit}, {Lo: -2 * impl.Unit, Hi: -impl.Unit - 1},
		{Lo: impl.MaxFix - 1, Hi: impl.MaxFix - 1}, {Lo: 1 - impl.MaxFix, Hi: 1 - impl.MaxFix},
	} {
		is(t, fmt.Sprint("AsinI", x), impl.AsinI(x), whole)
		is(t, fmt.Sprint("AcosI", x), impl.AcosI(x), whole)
	}
	is(t, "AcosI(-1)", impl.OverlapI(impl.AcosI(impl.Integer(-1)), impl.PiI()), true)
	is(t, "AcosI(1)", impl.HasI(impl.AcosI(impl.Integer(1)), 0), true)
	is(t, "AcosI(0)", impl.OverlapI(impl.AcosI(impl.Integer(0)), quarterTurn), true)
}

// has requires that an interval is bounded, not too wide, and contains a number.
func has(t *testing.T, name string, a impl.Interval, n, limit int64) {
	t.Helper()
	isNarrow(t, name, a, limit)
	if !impl.HasI(a, n) {
		t.Errorf("%s: %v does not contain %d", name, a, n)
	}
}

func TestArcTangentsUndoTangents(t *testing.T) {
	for _, n := range angles() {
		// Nearer to a quarter turn, tangents are not narrow.
		if size(n) > quarter-1000 {
			continue
		}
		has(t, fmt.Sprintf("the arc tangent of the tangent of %d", n), impl.AtanI(impl.TanI(exactly(n))), n, 60)
	}
	for _, n := range arcNumbers() {
		name, back := fmt.Sprintf("the tangent of the arc tangent of %d", n), impl.TanI(impl.AtanAt(n))
		if size(n) <= 8*impl.Unit {
			has(t, name, back, n, 4000)
		} else {
			is(t, name, impl.HasI(back, n), true)
		}
	}
}

func TestArcSinesUndoSines(t *testing.T) {
	for _, n := range angles() {
		if size(n) <= quarter {
			back := impl.AsinI(impl.SinI(exactly(n)))
			is(t, fmt.Sprintf("the arc sine of the sine of %d", n), impl.HasI(back, n), true)
			if size(n) < quarter*9/10 {
				isNarrow(t, fmt.Sprintf("the arc sine of the sine of %d", n), back, 120)
			}
		}
		if 0 <= n && n <= 2*quarter {
			back := impl.AcosI(impl.CosI(exactly(n)))
			is(t, fmt.Sprintf("the arc cosine of the cosine of %d", n), impl.HasI(back, n), true)
		}
	}
	for _, n := range ringNumbers() {
		has(t, fmt.Sprintf("the sine of the arc sine of %d", n), impl.SinI(impl.AsinAt(n)), n, 60)
		has(t, fmt.Sprintf("the cosine of the arc cosine of %d", n), impl.CosI(impl.AcosI(exactly(n))), n, 60)
	}
}

func TestDirectionsUndoSinesAndCosines(t *testing.T) {
	known := 0
	for _, n := range angles() {
		if size(n) > 2*quarter {
			continue
		}
		direction := impl.DirectionI(impl.SinI(exactly(n)), impl.CosI(exactly(n)))
		name := fmt.Sprintf("the direction of the point of the unit circle at %d", n)
		if size(n) < 2*quarter-10 {
			has(t, name, direction, n, 60)
			known++
		} else {
			// Both signs of y are possible next to a half turn.
			is(t, name, impl.HasI(direction, n), true)
		}
	}
	if known < 100 {
		t.Errorf("only %d directions were tried", known)
	}
}

// wantDirection returns what DirectionAt should return.
func wantDirection(y, x int64) impl.Interval {
	over := func(a, b int64) impl.Interval {
		q := impl.DivI(exactly(a), exactly(b))
		return impl.HullI(wantAtan(q.Lo), wantAtan(q.Hi))
	}
	switch {
	case !isOpenFix(y) || !isOpenFix(x) || y == 0 && x == 0:
		return whole
	case size(y) > size(x) && y < 0:
		return impl.SubI(impl.NegI(quarterTurn), over(x, y))
	case size(y) > size(x):
		return impl.SubI(quarterTurn, over(x, y))
	case x > 0:
		return over(y, x)
	case y < 0:
		return impl.AddI(over(y, x), impl.TurnI(-2))
	}
	return impl.AddI(over(y, x), impl.TurnI(2))
}

// coordinates are numbers of which all pairs are points of tests.
var coordinates = []int64{
	0, 1, 2, 3, 1000, 1001, impl.Unit - 1, impl.Unit, impl.Unit + 1, 7 * impl.Unit,
	impl.MaxFix / 2, impl.MaxFix - 2, impl.MaxFix - 1,
	-1, -2, -3, -1000, -999, 1 - impl.Unit, -impl.Unit, -1 - impl.Unit, -7*impl.Unit - 1,
	-impl.MaxFix / 2, 2 - impl.MaxFix, 1 - impl.MaxFix,
}

// points returns points other than 0, 0 with both coordinates greater than
// -MaxFix and less than MaxFix: on the axes and on both diagonals, next to
// them, and elsewhere, the same ones in each run.
func points() [][2]int64 {
	var list [][2]int64
	for _, y := range coordinates {
		for _, x := range coordinates {
			list = append(list, [2]int64{y, x})
		}
	}
	random := rand.New(rand.NewPCG(23, 24))
	for range 150 {
		n := random.Int64N(impl.MaxFix-1) >> random.IntN(60)
		for d := int64(-1); d <= 1; d++ {
			list = append(list,
				[2]int64{n, n + d}, [2]int64{-n, n + d}, [2]int64{n + d, -n}, [2]int64{-n + d, -n},
				[2]int64{d, n}, [2]int64{d, -n}, [2]int64{n, d}, [2]int64{-n, d})
		}
		m := random.Int64N(2*impl.MaxFix-1) - impl.MaxFix + 1
		list = append(list, [2]int64{m >> random.IntN(60), n}, [2]int64{n, m >> random.IntN(60)}, [2]int64{-n, m >> random.IntN(60)})
	}
	var known [][2]int64
	for _, p := range list {
		if p != [2]int64{} {
			known = append(known, p)
		}
	}
	return known
}

func TestDirectionsOfPointsAreEnclosed(t *testing.T) {
	// Directions of points on the negative part of the x axis are not exact.
	least, greatest := impl.TurnI(-2).Lo-20, impl.TurnI(2).Hi+20
	for _, p := range points() {
		y, x := p[0], p[1]
		name, direction := fmt.Sprintf("DirectionAt(%d, %d)", y, x), impl.DirectionAt(y, x)
		is(t, name, direction, wantDirection(y, x))
		contains(t, name, direction, directionOf(realOf(y), realOf(x)))
		isNarrow(t, name, direction, 36)
		is(t, name+" is an angle", least <= direction.Lo && direction.Hi <= greatest, true)
		if y != 0 {
			is(t, name+" by symmetry", impl.DirectionAt(-y, x), impl.NegI(direction))
		}
	}
}

func TestDirectionsOfTheAxesAndDiagonals(t *testing.T) {
	for _, c := range []struct {
		y, x, units int64
	}{
		{0, 1, 0}, {1, 1, 450000000}, {1, 0, 900000000}, {1, -1, 1350000000},
		{0, -1, 1800000000}, {-1, -1, -1350000000}, {-1, 0, -900000000}, {-1, 1, -450000000},
	} {
		for _, n := range []int64{1, 2, 1000, impl.Unit, impl.MaxFix - 1} {
			direction := impl.DirectionAt(c.y*n, c.x*n)
			name := fmt.Sprintf("DirectionAt(%d, %d)", c.y*n, c.x*n)
			is(t, name, impl.OverlapI(direction, impl.RadiansOf(c.units)), true)
			isNarrow(t, name, direction, 36)
		}
	}
	is(t, "DirectionAt(0, 1)", impl.DirectionAt(0, 1), impl.Interval{Lo: -4, Hi: 4})
	is(t, "DirectionAt(0, -1)", impl.DirectionAt(0, -1), impl.Interval{Lo: impl.PiI().Lo - 4, Hi: impl.PiI().Hi + 4})
	is(t, "DirectionAt(1, 0)", impl.DirectionAt(1, 0), impl.Interval{Lo: quarter - 4, Hi: quarter + 5})
	is(t, "DirectionAt(-1, 0)", impl.DirectionAt(-1, 0), impl.Interval{Lo: -quarter - 5, Hi: 4 - quarter})
}

func TestDirectionsOfOtherPointsAreWhole(t *testing.T) {
	is(t, "DirectionAt(0, 0)", impl.DirectionAt(0, 0), whole)
	list := append(numbers(), fixes()...)
	for _, bad := range list {
		if isOpenFix(bad) {
			continue
		}
		for _, n := range list {
			is(t, fmt.Sprintf("DirectionAt(%d, %d)", bad, n), impl.DirectionAt(bad, n), whole)
			is(t, fmt.Sprintf("DirectionAt(%d, %d)", n, bad), impl.DirectionAt(n, bad), whole)
		}
	}
}

// boxSides returns the intervals of which all pairs are boxes of tests: they
// contain 0, end or begin next to it or at it, or are far from it.
func boxSides() []impl.Interval {
	ends := []int64{1 - impl.MaxFix, -3 * impl.Unit, -2, -1, 0, 1, 2, impl.Unit, impl.MaxFix - 1}
	var list []impl.Interval
	for i, lo := range ends {
		for _, hi := range ends[i:] {
			list = append(list, impl.Interval{Lo: lo, Hi: hi})
		}
	}
	return list
}

// wantDirections returns what DirectionI should return for bounded intervals.
func wantDirections(y, x impl.Interval) impl.Interval {
	if hasZero(y) && hasZero(x) || x.Lo < 0 && y.Lo < 0 && y.Hi >= 0 {
		return whole
	}
	left := impl.HullI(wantDirection(y.Lo, x.Lo), wantDirection(y.Hi, x.Lo))
	right := impl.HullI(wantDirection(y.Lo, x.Hi), wantDirection(y.Hi, x.Hi))
	return impl.HullI(left, right)
}

func TestDirectionsOfBoxesAreEnclosed(t *testing.T) {
	known := map[[2]int64]*big.Float{}
	direction := func(y, x int64) *big.Float {
		p := [2]int64{y, x}
		if known[p] == nil {
			known[p] = directionOf(realOf(y), realOf(x))
		}
		return known[p]
	}
	for _, y := range boxSides() {
		for _, x := range boxSides() {
			name, directions := fmt.Sprint("DirectionI", y, x), impl.DirectionI(y, x)
			is(t, name, directions, wantDirections(y, x))
			for _, m := range members(y) {
				for _, n := range members(x) {
					if m != 0 || n != 0 {
						contains(t, name, directions, direction(m, n))
					}
				}
			}
		}
	}
	for _, p := range points() {
		y := impl.Interval{Lo: max(p[0]-5, 1-impl.MaxFix), Hi: min(p[0]+3, impl.MaxFix-1)}
		x := impl.Interval{Lo: max(p[1]-2, 1-impl.MaxFix), Hi: min(p[1]+7, impl.MaxFix-1)}
		is(t, fmt.Sprint("DirectionI", y, x), impl.DirectionI(y, x), wantDirections(y, x))
		is(t, fmt.Sprint("DirectionI", p), impl.DirectionI(exactly(p[0]), exactly(p[1])), impl.DirectionAt(p[0], p[1]))
	}
}

func TestDirectionsOfBoxesAtTheNegativeAxis(t *testing.T) {
	left, all, right := impl.Interval{Lo: -9, Hi: -3}, impl.Interval{Lo: -9, Hi: 4}, impl.Interval{Lo: 0, Hi: 4}
	for _, c := range []struct {
		y, x  impl.Interval
		known bool
	}{
		{impl.Interval{Lo: -5, Hi: -1}, left, true},
		{impl.Interval{Lo: -5, Hi: 0}, left, false},
		{impl.Interval{Lo: -1, Hi: 0}, left, false},
		{impl.Interval{Lo: -5, Hi: 5}, left, false},
		{impl.Interval{Lo: 0, Hi: 5}, left, true},
		{impl.Interval{}, left, true},
		{impl.Interval{Lo: 1, Hi: 5}, left, true},
		{impl.Interval{Lo: -5, Hi: -1}, all, true},
		{impl.Interval{Lo: 1, Hi: 5}, all, true},
		{impl.Interval{Lo: -5, Hi: 0}, all, false},
		{impl.Interval{Lo: 0, Hi: 5}, all, false},
		{impl.Interval{Lo: -5, Hi: -1}, right, true},
		{impl.Interval{Lo: -5, Hi: 0}, right, false},
		{impl.Interval{Lo: 0, Hi: 5}, right, false},
		{impl.Interval{Lo: -5, Hi: 5}, impl.Interval{Lo: 1, Hi: 4}, true},
		{impl.Interval{Lo: -5, Hi: 5}, impl.Interval{Lo: -9, Hi: -1}, false},
		{impl.Interval{Lo: -5, Hi: -1}, impl.Interval{Lo: -9, Hi: 0}, true},
		{impl.Interval{Lo: 1, Hi: 5}, impl.Interval{}, true},
		{impl.Interval{}, impl.Interval{}, false},
	} {
		is(t, fmt.Sprint("DirectionI", c.y, c.x, " is known"), !impl.IsWhole(impl.DirectionI(c.y, c.x)), c.known)
	}
}

func TestDirectionsOfUnknownBoxesAreWhole(t *testing.T) {
	for _, w := range wholes() {
		for _, x := range append(boxSides(), wholes()...) {
			is(t, fmt.Sprint("DirectionI", w, x), impl.DirectionI(w, x), whole)
			is(t, fmt.Sprint("DirectionI", x, w), impl.DirectionI(x, w), whole)
		}
	}
}
