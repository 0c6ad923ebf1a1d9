package tests

import (
	"fmt"
	"math"
	"math/big"
	"math/rand/v2"
	"testing"

	"loop.example/g00880/impl"
)

// The approximate logarithm of 2 of ExpAt, and the limits of the functions.
const (
	lnTwo     = 2977044472
	expMost   = 20 * impl.Unit
	expLeast  = -23 * impl.Unit
	tanhMost  = 12 * impl.Unit
	asinhMost = 8192 * impl.Unit
)

// The least number of which the exponential is no fix, and the least one below
// Unit of which the inverse hyperbolic tangent is not known.
const (
	firstGreat = 83357245208
	firstSteep = impl.Unit - 31
)

func TestLimitsOfExponentials(t *testing.T) {
	scaled, _ := times(realLnTwo(), new(big.Float).SetInt(power(61))).Int(nil)
	is(t, "LnScaled", impl.LnScaled, scaled.Int64())
	is(t, "MaxTwos", impl.MaxTwos, 64)
	is(t, "ExpTerms", impl.ExpTerms, 9)
	is(t, "LogTerms", impl.LogTerms, 11)
	is(t, "MaxPower", impl.MaxPower, 16)
}

// wantLogTwo returns what LogTwoI should return for -64 to 64.
func wantLogTwo(k int64) impl.Interval {
	count := big.NewInt(size(k))
	lo, _ := floorOf(new(big.Int).Mul(count, big.NewInt(1598288580650331957)), power(29))
	hi := ceilingOf(new(big.Int).Mul(count, big.NewInt(1598288580650331958)), power(29))
	return mirrored(k, lo.Int64(), hi.Int64())
}

func TestLogarithmsOfPowersOfTwoAreEnclosed(t *testing.T) {
	for k := int64(-64); k <= 64; k++ {
		name, got := fmt.Sprintf("LogTwoI(%d)", k), impl.LogTwoI(k)
		is(t, name, got, wantLogTwo(k))
		contains(t, name, got, times(realOf(k), realLnTwo()))
		isNarrow(t, name, got, 1)
		for j := int64(-64); j <= 64; j++ {
			if sum := j + k; -64 <= sum && sum <= 64 {
				is(t, fmt.Sprintf("%s and %d", name, j), impl.OverlapI(impl.AddI(got, impl.LogTwoI(j)), impl.LogTwoI(sum)), true)
			}
		}
	}
	for k, want := range map[int64]impl.Interval{
		0: {}, 1: {Lo: 2977044471, Hi: 2977044472}, -1: {Lo: -2977044472, Hi: -2977044471},
		64: {Lo: 190530846196, Hi: 190530846197}, -64: {Lo: -190530846197, Hi: -190530846196}, 65: whole, -65: whole,
	} {
		is(t, fmt.Sprintf("LogTwoI(%d)", k), impl.LogTwoI(k), want)
	}
	for _, k := range append(numbers(), fixes()...) {
		if k < -64 || k > 64 {
			is(t, fmt.Sprintf("LogTwoI(%d)", k), impl.LogTwoI(k), whole)
		}
	}
}

// timesPower returns the interval times 2^k, rounded down and up.
func timesPower(x impl.Interval, k int64) impl.Interval {
	lo, hi := big.NewInt(x.Lo), big.NewInt(x.Hi)
	if k >= 0 {
		return fromTo(lo.Lsh(lo, uint(k)), hi.Lsh(hi, uint(k)))
	}
	lo, _ = floorOf(lo, power(uint(-k)))
	return fromTo(lo, ceilingOf(hi, power(uint(-k))))
}

// wantExp returns what ExpAt should return.
func wantExp(n int64) impl.Interval {
	switch {
	case !inFixes(n) || n > expMost:
		return whole
	case n < expLeast:
		return impl.Interval{Lo: 0, Hi: 1}
	}
	twos, _ := floorOf(big.NewInt(2*n+lnTwo), big.NewInt(2*lnTwo))
	k := twos.Int64()
	one := impl.Integer(1)
	p, r := one, impl.SubI(exactly(n), wantLogTwo(k))
	for i := int64(9); i >= 1; i-- {
		p = impl.AddI(one, impl.DivI(impl.MulI(r, p), impl.Integer(i)))
	}
	return timesPower(impl.Interval{Lo: p.Lo - 1, Hi: p.Hi + 1}, k)
}

// exponents returns numbers that have exponentials, near the places where the
// power of 2 changes and near the limits, and some of all sizes, the same ones
// in each run.
func exponents() []int64 {
	list := []int64{
		0, 1, 2, 1000, impl.Unit / 3, impl.Unit - 1, impl.Unit, impl.Unit + 1, 7 * impl.Unit,
		expMost - 2, expMost - 1, expMost, expLeast, expLeast + 1, expLeast + 2,
		firstGreat - 2, firstGreat - 1, firstGreat, firstGreat + 1,
	}
	for k := int64(-33); k <= 29; k++ {
		for d := int64(-2); d <= 2; d++ {
			list = append(list, (2*k-1)*lnTwo/2+d, k*lnTwo+d)
		}
	}
	random := rand.New(rand.NewPCG(25, 26))
	for range 2000 {
		n := random.Int64N(-expLeast) >> random.IntN(34)
		list = append(list, n, -n)
	}
	var known []int64
	for _, n := range list {
		if expLeast <= n && n <= expMost {
			known = append(known, n)
		}
	}
	return known
}

// wholeExponential requires that an exponential that is not known is that of a
// number that is too great.
func wholeExponential(t *testing.T, name string, n int64) {
	t.Helper()
	if n < firstGreat {
		t.Errorf("%s is whole", name)
	}
}

func TestExponentialsOfNumbersAreEnclosed(t *testing.T) {
	for _, n := range exponents() {
		name, got := fmt.Sprintf("ExpAt(%d)", n), impl.ExpAt(n)
		is(t, name, got, wantExp(n))
		if got == whole {
			wholeExponential(t, name, n)
			continue
		}
		exact := exponentialOf(valueOf(n))
		contains(t, name, got, exact)
		units, _ := exact.Float64()
		isNarrow(t, name, got, 2+int64(20*units))
	}
}

func TestExponentialsAtTheLimits(t *testing.T) {
	for _, c := range []struct {
		n    int64
		want impl.Interval
	}{
		{0, impl.Interval{Lo: impl.Unit - 1, Hi: impl.Unit + 1}},
		{firstGreat - 1, impl.Interval{Lo: 1152921503264669696, Hi: 1152921504338411520}},
		{firstGreat, whole}, {expMost - 1, whole}, {expMost, whole}, {expMost + 1, whole}, {expMost + 2, whole},
		{expLeast + 1, impl.Interval{Lo: 0, Hi: 1}}, {expLeast, impl.Interval{Lo: 0, Hi: 1}},
		{expLeast - 1, impl.Interval{Lo: 0, Hi: 1}}, {expLeast - 2, impl.Interval{Lo: 0, Hi: 1}},
		{-30 * impl.Unit, impl.Interval{Lo: 0, Hi: 1}},
		{-22 * impl.Unit, impl.Interval{Lo: 1, Hi: 2}}, // rounded down and up from about 1.2
		{1 - impl.MaxFix, impl.Interval{Lo: 0, Hi: 1}}, {-impl.MaxFix, impl.Interval{Lo: 0, Hi: 1}},
		{-impl.MaxFix - 1, whole}, {-impl.MaxFix - 2, whole}, {math.MinInt64, whole},
		{impl.MaxFix, whole}, {impl.MaxFix + 1, whole}, {math.MaxInt64, whole},
	} {
		is(t, fmt.Sprintf("ExpAt(%d)", c.n), impl.ExpAt(c.n), c.want)
	}
	for _, n := range append(numbers(), fixes()...) {
		is(t, fmt.Sprintf("ExpAt(%d)", n), impl.ExpAt(n), wantExp(n))
	}
}

// isTwos reports whether a number divided by 2^e, rounded down, is at least 3/4
// and less than 3/2.
func isTwos(n, e int64) bool {
	m := timesPower(exactly(n), -e)
	return m != whole && m.Lo >= 3*impl.Unit/4 && m.Lo < 3*impl.Unit/2
}

// twosOf returns the only exponent of a positive fix.
func twosOf(t *testing.T, n int64) int64 {
	t.Helper()
	var list []int64
	for e := int64(-34); e <= 30; e++ {
		if isTwos(n, e) {
			list = append(list, e)
		}
	}
	if len(list) != 1 {
		t.Fatalf("%d has the exponents %v", n, list)
	}
	return list[0]
}

// wantLog returns what LogAt should return.
func wantLog(t *testing.T, n int64) impl.Interval {
	t.Helper()
	if !inFixes(n) || n <= 0 {
		return whole
	}
	e, one := twosOf(t, n), impl.Integer(1)
	m := timesPower(exactly(n), -e)
	z := impl.DivI(impl.SubI(m, one), impl.AddI(m, one))
	q, p := impl.SqrI(z), impl.Quotient(1, 11)
	for i := int64(9); i >= 1; i -= 2 {
		p = impl.AddI(impl.Quotient(1, i), impl.MulI(q, p))
	}
	w := impl.MulI(impl.MulI(impl.Integer(2), z), p)
	return impl.AddI(wantLogTwo(e), impl.Interval{Lo: w.Lo - 1, Hi: w.Hi + 1})
}

// positives returns fixes that have logarithms, near the places where the power
// of 2 changes and near powers of 2, and some of all sizes, the same ones in
// each run.
func positives() []int64 {
	var list []int64
	for e := range int64(61) {
		for d := int64(-3); d <= 3; d++ {
			list = append(list, 1<<e+d, 3<<e+d)
		}
	}
	random := rand.New(rand.NewPCG(27, 28))
	for range 2000 {
		list = append(list, random.Int64N(impl.MaxFix)>>random.IntN(60))
	}
	var known []int64
	for _, n := range list {
		if 0 < n && n <= impl.MaxFix {
			known = append(known, n)
		}
	}
	return known
}

func TestLogarithmsOfNumbersAreEnclosed(t *testing.T) {
	for _, n := range positives() {
		name, got := fmt.Sprintf("LogAt(%d)", n), impl.LogAt(n)
		is(t, name, got, wantLog(t, n))
		contains(t, name, got, logarithmOf(valueOf(n)))
		isNarrow(t, name, got, 12)
	}
	for _, c := range []struct {
		n    int64
		want impl.Interval
	}{
		{1, impl.Interval{Lo: -95265423100, Hi: -95265423097}},
		{impl.Unit, impl.Interval{Lo: -1, Hi: 1}},
		{2 * impl.Unit, impl.Interval{Lo: 2977044470, Hi: 2977044473}},
		{3*impl.Unit/4 - 1, impl.Interval{Lo: -1235585098, Hi: -1235585091}},
		{3 * impl.Unit / 4, impl.Interval{Lo: -1235585095, Hi: -1235585090}},
		{3*impl.Unit/2 - 1, impl.Interval{Lo: 1741459374, Hi: 1741459380}},
		{3 * impl.Unit / 2, impl.Interval{Lo: 1741459376, Hi: 1741459382}},
		{impl.MaxFix - 1, impl.Interval{Lo: 83357245206, Hi: 83357245212}},
		{impl.MaxFix, impl.Interval{Lo: 83357245209, Hi: 83357245212}},
		{0, whole}, {-1, whole}, {-impl.Unit, whole}, {1 - impl.MaxFix, whole}, {-impl.MaxFix, whole}, {-impl.MaxFix - 1, whole},
		{impl.MaxFix + 1, whole}, {impl.MaxFix + 2, whole}, {math.MaxInt64, whole}, {math.MinInt64, whole},
	} {
		is(t, fmt.Sprintf("LogAt(%d)", c.n), impl.LogAt(c.n), c.want)
	}
	for _, n := range append(numbers(), fixes()...) {
		is(t, fmt.Sprintf("LogAt(%d)", n), impl.LogAt(n), wantLog(t, n))
	}
}

// growing is an increasing function on intervals, with what it should return
// for one number, and the exact value, if there is one.
type growing struct {
	name   string
	run    func(x impl.Interval) impl.Interval
	want   func(n int64) impl.Interval
	exact  func(x *big.Float) *big.Float
	exists func(n int64) bool
}

// asOdd returns a function for numbers of both signs.
func asOdd(want func(n int64) impl.Interval) func(n int64) impl.Interval {
	return func(n int64) impl.Interval {
		if n < 0 {
			return impl.NegI(want(-n))
		}
		return want(n)
	}
}

// ofEnds returns the interval between the results for both ends.
func ofEnds(x impl.Interval, want func(n int64) impl.Interval) impl.Interval {
	first, last := want(x.Lo), want(x.Hi)
	if first == whole || last == whole {
		return whole
	}
	return impl.Interval{Lo: first.Lo, Hi: last.Hi}
}

// wantSinh returns what SinhI should return for one number.
func wantSinh(n int64) impl.Interval { return impl.HalfI(impl.SubI(wantExp(n), wantExp(-n))) }

// wantCosh returns what CoshI should return for one number that is not negative.
func wantCosh(n int64) impl.Interval { return impl.HalfI(impl.AddI(wantExp(n), wantExp(-n))) }

// wantTanh returns what TanhI should return for one number that is not negative.
func wantTanh(n int64) impl.Interval {
	if n > tanhMost {
		return impl.Interval{Lo: impl.Unit - 1, Hi: impl.Unit}
	}
	one, falling := impl.Integer(1), wantExp(-2*n)
	return impl.DivI(impl.SubI(one, falling), impl.AddI(one, falling))
}

// growingFunctions returns the increasing functions of the chapter.
func growingFunctions(t *testing.T) []growing {
	log := func(n int64) impl.Interval { return wantLog(t, n) }
	asinh := func(n int64) impl.Interval {
		if n > asinhMost {
			return impl.AddI(impl.AddI(wantLogTwo(1), log(n)), impl.Interval{Lo: 0, Hi: 16})
		}
		x := exactly(n)
		return ofEnds(impl.AddI(x, impl.SqrtI(impl.AddI(impl.SqrI(x), impl.Integer(1)))), log)
	}
	atanh := func(n int64) impl.Interval {
		if n >= impl.Unit {
			return whole
		}
		q := impl.DivI(exactly(impl.Unit+n), exactly(impl.Unit-n))
		return impl.HalfI(ofEnds(q, log))
	}
	hyperbolicSine := func(x *big.Float) *big.Float {
		sine, _ := hyperbolicSineAndCosine(x)
		return sine
	}
	always := func(n int64) bool { return true }
	// The exact values of others are too near to 0 or to 1 for real numbers.
	small := func(n int64) bool { return size(n) <= 60*impl.Unit }
	return []growing{
		{"ExpI", impl.ExpI, wantExp, exponentialOf, small},
		{"LogI", impl.LogI, log, logarithmOf, func(n int64) bool { return n > 0 }},
		{"SinhI", impl.SinhI, wantSinh, hyperbolicSine, small},
		{"TanhI", impl.TanhI, asOdd(wantTanh), hyperbolicTangent, small},
		{"AsinhI", impl.AsinhI, asOdd(asinh), inverseHyperbolicSine, always},
		{"AtanhI", impl.AtanhI, asOdd(atanh), inverseHyperbolicTangent, func(n int64) bool { return size(n) < impl.Unit }},
	}
}

// allFunctions returns the functions of the chapter on one interval.
func allFunctions(t *testing.T) []growing {
	return append(growingFunctions(t), growing{name: "CoshI", run: impl.CoshI})
}

// expEnds are numbers at, next to and far from the limits of the functions.
func expEnds() []int64 {
	list := []int64{0, 1, 2, 1000, impl.Unit / 3, impl.MaxFix - 2, impl.MaxFix - 1}
	for _, limit := range []int64{
		impl.Unit / 2, impl.Unit, 3 * impl.Unit, tanhMost, expMost, -expLeast, asinhMost, firstGreat, firstSteep, 1 << 46, 1 << 59,
	} {
		list = append(list, limit-1, limit, limit+1)
	}
	for _, n := range list[1:] {
		list = append(list, -n)
	}
	return list
}

// expIntervals returns bounded intervals with all pairs of these ends, and others.
func expIntervals() []impl.Interval {
	list := boundedIntervals()
	for _, lo := range expEnds() {
		for _, hi := range expEnds() {
			if lo <= hi {
				list = append(list, impl.Interval{Lo: lo, Hi: hi})
			}
		}
	}
	random := rand.New(rand.NewPCG(29, 30))
	for range 300 {
		lo := random.Int64N(50*impl.Unit) - 25*impl.Unit
		n := random.Int64N(2*impl.Unit) - impl.Unit
		list = append(list,
			impl.Interval{Lo: lo, Hi: lo + random.Int64N(5*impl.Unit)>>random.IntN(34)},
			impl.Interval{Lo: n, Hi: n + random.Int64N(impl.Unit)>>random.IntN(34)})
	}
	return list
}

func TestGrowingFunctionsOfIntervalsFollowTheirEnds(t *testing.T) {
	for _, f := range growingFunctions(t) {
		known := 0
		exact := map[int64]*big.Float{}
		for _, x := range expIntervals() {
			name, got := fmt.Sprint(f.name, x), f.run(x)
			is(t, name, got, ofEnds(x, f.want))
			if got == whole {
				continue
			}
			known++
			for _, n := range members(x) {
				if !f.exists(n) {
					continue
				}
				if exact[n] == nil {
					exact[n] = f.exact(valueOf(n))
				}
				contains(t, name, got, exact[n])
			}
		}
		if known < 200 {
			t.Errorf("%s: only %d results are known", f.name, known)
		}
	}
}

func TestHyperbolicCosinesOfIntervalsAreEnclosed(t *testing.T) {
	known := 0
	for _, x := range expIntervals() {
		name, got := fmt.Sprint("CoshI", x), impl.CoshI(x)
		sizes := impl.Interval{Lo: min(size(x.Lo), size(x.Hi)), Hi: max(size(x.Lo), size(x.Hi))}
		if hasZero(x) {
			sizes.Lo = 0
		}
		is(t, name, got, ofEnds(sizes, wantCosh))
		is(t, name+" by symmetry", impl.CoshI(impl.Interval{Lo: -x.Hi, Hi: -x.Lo}), got)
		if got == whole {
			continue
		}
		known++
		for _, n := range members(x) {
			_, cosine := hyperbolicSineAndCosine(valueOf(n))
			contains(t, name, got, cosine)
		}
	}
	if known < 200 {
		t.Errorf("only %d results are known", known)
	}
}

func TestFunctionsOfUnknownNumbersAreWhole(t *testing.T) {
	list := append(wholes(), impl.Interval{Lo: 2 * impl.Unit, Hi: impl.Unit}, impl.Interval{Lo: 1, Hi: -1})
	for _, f := range allFunctions(t) {
		for _, x := range list {
			is(t, fmt.Sprint(f.name, x), f.run(x), whole)
		}
	}
}

func TestFunctionsOfIntervalsWithAnUnknownEndAreWhole(t *testing.T) {
	const one = impl.Unit
	for _, c := range []struct {
		name  string
		run   func(x impl.Interval) impl.Interval
		x     impl.Interval
		known bool
	}{
		{"ExpI", impl.ExpI, impl.Interval{Lo: 0, Hi: firstGreat - 1}, true},
		{"ExpI", impl.ExpI, impl.Interval{Lo: 0, Hi: firstGreat}, false},
		{"ExpI", impl.ExpI, impl.Interval{Lo: 0, Hi: expMost + 1}, false},
		{"ExpI", impl.ExpI, impl.Interval{Lo: 1 - impl.MaxFix, Hi: 0}, true},
		{"LogI", impl.LogI, impl.Interval{Lo: 1, Hi: impl.MaxFix - 1}, true},
		{"LogI", impl.LogI, impl.Interval{Lo: 0, Hi: one}, false},
		{"LogI", impl.LogI, impl.Interval{Lo: -one, Hi: one}, false},
		{"LogI", impl.LogI, impl.Interval{Lo: -one, Hi: -1}, false},
		{"SinhI", impl.SinhI, impl.Interval{Lo: 1 - firstGreat, Hi: firstGreat - 1}, true},
		{"SinhI", impl.SinhI, impl.Interval{Lo: -firstGreat, Hi: 0}, false},
		{"SinhI", impl.SinhI, impl.Interval{Lo: 0, Hi: firstGreat}, false},
		{"CoshI", impl.CoshI, impl.Interval{Lo: 1 - firstGreat, Hi: firstGreat - 1}, true},
		{"CoshI", impl.CoshI, impl.Interval{Lo: -firstGreat, Hi: 0}, false},
		{"CoshI", impl.CoshI, impl.Interval{Lo: 0, Hi: firstGreat}, false},
		{"TanhI", impl.TanhI, impl.Interval{Lo: 1 - impl.MaxFix, Hi: impl.MaxFix - 1}, true},
		{"AsinhI", impl.AsinhI, impl.Interval{Lo: 1 - impl.MaxFix, Hi: impl.MaxFix - 1}, true},
		{"AtanhI", impl.AtanhI, impl.Interval{Lo: 1 - firstSteep, Hi: firstSteep - 1}, true},
		{"AtanhI", impl.AtanhI, impl.Interval{Lo: 0, Hi: firstSteep}, false},
		{"AtanhI", impl.AtanhI, impl.Interval{Lo: -firstSteep, Hi: 0}, false},
		{"AtanhI", impl.AtanhI, impl.Interval{Lo: 0, Hi: one - 1}, false},
		{"AtanhI", impl.AtanhI, impl.Interval{Lo: 0, Hi: one}, false},
		{"AtanhI", impl.AtanhI, impl.Interval{Lo: -one, Hi: 0}, false},
		{"AtanhI", impl.AtanhI, impl.Interval{Lo: -2 * one, Hi: 2 * one}, false},
	} {
		is(t, fmt.Sprint(c.name, c.x, " is known"), c.run(c.x) != whole, c.known)
	}
}

func TestHyperbolicFunctionsAtTheEdges(t *testing.T) {
	const one = impl.Unit
	zero := impl.Interval{Lo: -1, Hi: 1}
	for _, c := range []struct {
		name string
		run  func(x impl.Interval) impl.Interval
		n    int64
		want impl.Interval
	}{
		{"ExpI", impl.ExpI, 0, impl.Interval{Lo: one - 1, Hi: one + 1}},
		{"LogI", impl.LogI, one, zero},
		{"LogI", impl.LogI, 0, whole},
		{"SinhI", impl.SinhI, 0, zero},
		{"CoshI", impl.CoshI, 0, impl.Interval{Lo: one - 1, Hi: one + 1}},
		{"TanhI", impl.TanhI, 0, zero},
		{"TanhI", impl.TanhI, 12 * one, impl.Interval{Lo: one - 2, Hi: one}},
		{"TanhI", impl.TanhI, 12*one + 1, impl.Interval{Lo: one - 1, Hi: one}},
		{"TanhI", impl.TanhI, -12 * one, impl.Interval{Lo: -one, Hi: 2 - one}},
		{"TanhI", impl.TanhI, -12*one - 1, impl.Interval{Lo: -one, Hi: 1 - one}},
		{"TanhI", impl.TanhI, impl.MaxFix - 1, impl.Interval{Lo: one - 1, Hi: one}},
		{"AsinhI", impl.AsinhI, 0, zero},
		{"AsinhI", impl.AsinhI, 8192 * one, impl.Interval{Lo: 41678622618, Hi: 41678622624}},
		{"AsinhI", impl.AsinhI, 8192*one + 1, impl.Interval{Lo: 41678622603, Hi: 41678622626}},
		{"AsinhI", impl.AsinhI, -8192 * one, impl.Interval{Lo: -41678622624, Hi: -41678622618}},
		{"AsinhI", impl.AsinhI, -8192*one - 1, impl.Interval{Lo: -41678622626, Hi: -41678622603}},
		{"AtanhI", impl.AtanhI, 0, zero},
		{"AtanhI", impl.AtanhI, firstSteep - 1, impl.Interval{Lo: 41678622595, Hi: 41678622598}},
		{"AtanhI", impl.AtanhI, 1 - firstSteep, impl.Interval{Lo: -41678622598, Hi: -41678622595}},
		{"AtanhI", impl.AtanhI, one - 1, whole},
		{"AtanhI", impl.AtanhI, 1 - one, whole},
		{"AtanhI", impl.AtanhI, one, whole},
		{"AtanhI", impl.AtanhI, -one, whole},
		{"AtanhI", impl.AtanhI, one + 1, whole},
		{"AtanhI", impl.AtanhI, -one - 1, whole},
	} {
		is(t, fmt.Sprintf("%s of %d", c.name, c.n), c.run(exactly(c.n)), c.want)
	}
}

func TestExponentialsAndLogarithmsUndoOneAnother(t *testing.T) {
	for _, n := range exponents() {
		name, back := fmt.Sprintf("the logarithm of the exponential of %d", n), impl.LogI(impl.ExpAt(n))
		switch {
		case -impl.Unit <= n && n < firstGreat:
			has(t, name, back, n, 60)
		default:
			is(t, name, impl.HasI(back, n), true)
		}
	}
	for _, n := range positives() {
		name, back := fmt.Sprintf("the exponential of the logarithm of %d", n), impl.ExpI(impl.LogAt(n))
		if n < impl.MaxFix-impl.MaxFix>>20 {
			has(t, name, back, n, 4+n>>26)
		} else {
			is(t, name, impl.HasI(back, n), true)
		}
	}
}

func TestHyperbolicFunctionsAndTheirInversesUndoOneAnother(t *testing.T) {
	for _, n := range exponents() {
		x := exactly(n)
		sine := impl.AsinhI(impl.SinhI(x))
		name := fmt.Sprintf("the inverse of the hyperbolic sine of %d", n)
		is(t, name, impl.HasI(sine, n), true)
		if size(n) < 19*impl.Unit {
			isNarrow(t, name, sine, 100)
		}
		name = fmt.Sprintf("the inverse of the hyperbolic tangent of %d", n)
		tangent := impl.AtanhI(impl.TanhI(x))
		is(t, name, impl.HasI(tangent, n), true)
		if size(n) < 2*impl.Unit {
			isNarrow(t, name, tangent, 400)
		}
		// The hyperbolic cosine is the root of the square of the sine, plus 1.
		cosine := impl.SqrtI(impl.AddI(impl.SqrI(impl.SinhI(x)), impl.Integer(1)))
		is(t, fmt.Sprintf("the hyperbolic cosine of %d", n), impl.OverlapI(cosine, impl.CoshI(x)), true)
	}
	for _, n := range ringNumbers() {
		name, back := fmt.Sprintf("the hyperbolic tangent of the inverse of %d", n), impl.TanhI(impl.AtanhI(exactly(n)))
		if size(n) < firstSteep {
			has(t, name, back, n, 60)
		} else {
			is(t, name, back, whole)
		}
	}
	for _, n := range append(positives(), 0) {
		for _, m := range []int64{n, -n} {
			name, back := fmt.Sprintf("the hyperbolic sine of the inverse of %d", m), impl.SinhI(impl.AsinhI(exactly(m)))
			if n < 1<<58 {
				has(t, name, back, m, 60+n>>26)
			} else {
				is(t, name, impl.HasI(back, m), true)
			}
		}
	}
}

func TestExponentialsKeepSumsAndProducts(t *testing.T) {
	random := rand.New(rand.NewPCG(31, 32))
	list := exponents()
	known := 0
	for range 5000 {
		a, b := list[random.IntN(len(list))], list[random.IntN(len(list))]
		product, sum := impl.MulI(impl.ExpAt(a), impl.ExpAt(b)), impl.ExpAt(a+b)
		is(t, fmt.Sprintf("the exponential of %d and %d", a, b), impl.OverlapI(product, sum), true)
		if product != whole && sum != whole {
			known++
		}
	}
	if known < 3000 {
		t.Errorf("only %d exponentials are known", known)
	}
	others := positives()
	for range 5000 {
		a, b := others[random.IntN(len(others))], others[random.IntN(len(others))]
		product := impl.MulI(exactly(a), exactly(b))
		if product == whole || product.Lo == 0 {
			continue
		}
		sum := impl.AddI(impl.LogAt(a), impl.LogAt(b))
		name := fmt.Sprintf("the logarithm of %d times %d", a, b)
		is(t, name, impl.OverlapI(sum, impl.LogI(product)), true)
		isNarrow(t, name, sum, 24)
		quotient := impl.DivI(exactly(a), exactly(b))
		if quotient != whole && quotient.Lo > 0 {
			difference := impl.SubI(impl.LogAt(a), impl.LogAt(b))
			is(t, fmt.Sprintf("the logarithm of %d by %d", a, b), impl.OverlapI(difference, impl.LogI(quotient)), true)
		}
	}
}

func TestHyperbolicFunctionsFitTogether(t *testing.T) {
	for _, n := range exponents() {
		x := exactly(n)
		sine, cosine, tangent := impl.SinhI(x), impl.CoshI(x), impl.TanhI(x)
		name := func(what string) string { return fmt.Sprintf("%s of %d", what, n) }
		is(t, name("the hyperbola"), impl.HasI(impl.SubI(impl.SqrI(cosine), impl.SqrI(sine)), impl.Unit), true)
		is(t, name("the sum"), impl.OverlapI(impl.AddI(cosine, sine), impl.ExpAt(n)), true)
		is(t, name("the difference"), impl.OverlapI(impl.SubI(cosine, sine), impl.ExpAt(-n)), true)
		is(t, name("the tangent"), impl.OverlapI(impl.DivI(sine, cosine), tangent), true)
		is(t, name("the tangent is in the ring"), impl.InsideI(tangent, impl.Interval{Lo: -impl.Unit - 8, Hi: impl.Unit + 8}), true)
		is(t, name("the sine by symmetry"), impl.SinhI(exactly(-n)), impl.NegI(sine))
		is(t, name("the tangent by symmetry"), impl.TanhI(exactly(-n)), impl.NegI(tangent))
		is(t, name("the inverse sine by symmetry"), impl.AsinhI(exactly(-n)), impl.NegI(impl.AsinhI(x)))
		is(t, name("the inverse tangent by symmetry"), impl.AtanhI(exactly(-n)), impl.NegI(impl.AtanhI(x)))
		double := impl.SinhI(exactly(2 * n))
		is(t, name("the sine of the double"), impl.OverlapI(double, impl.DoubleI(impl.MulI(sine, cosine))), true)
	}
}

// powerIntervals returns intervals below, around and above 0, of numbers whose
// powers are fixes and of others.
func powerIntervals() []impl.Interval {
	const one = impl.Unit
	ends := []int64{
		-70000 * one, -300 * one, -5 * one, -2*one - 1, -2 * one, -one - 1, -one, -one / 3, -7, -1, 0,
		1, 9, one / 2, one - 1, one, one + 1, 2 * one, 3*one - 1, 4 * one, 100 * one, 16384 * one,
	}
	list := boundedIntervals()
	for i, lo := range ends {
		for _, hi := range ends[i:] {
			list = append(list, impl.Interval{Lo: lo, Hi: hi})
		}
	}
	random := rand.New(rand.NewPCG(33, 34))
	for range 100 {
		lo := random.Int64N(10*one) - 5*one
		list = append(list, impl.Interval{Lo: lo, Hi: lo + random.Int64N(one)>>random.IntN(34)})
	}
	return list
}

// wantPower returns what PowerI should return for a bounded interval.
func wantPower(x impl.Interval, n int64) impl.Interval {
	if n < 0 || n > 16 {
		return whole
	}
	if n == 0 {
		return exactly(impl.Unit)
	}
	if n%2 == 0 && x.Lo < 0 {
		x = impl.AbsI(x)
	}
	p := x
	for i := int64(1); i < n; i++ {
		p = impl.MulI(p, x)
	}
	return p
}

// powerOf returns the power of a number of units, in units.
func powerOf(m, n int64) *big.Rat {
	p, x := unitRat(), big.NewRat(m, 1)
	for range n {
		p = product(p, x)
	}
	return p
}

func TestPowersOfIntervalsAreEnclosed(t *testing.T) {
	known := 0
	for _, x := range powerIntervals() {
		for n := int64(-2); n <= 18; n++ {
			name, got := fmt.Sprint("PowerI", x, n), impl.PowerI(x, n)
			is(t, name, got, wantPower(x, n))
			if got == whole {
				continue
			}
			known++
			for _, m := range members(x) {
				if p := powerOf(m, n); !isIn(p, got) {
					t.Errorf("%s: %v does not contain the power of %d, %s", name, got, m, p.FloatString(3))
				}
			}
			if n%2 == 0 && got.Lo < 0 {
				t.Errorf("%s: %v is not positive", name, got)
			}
		}
	}
	if known < 1000 {
		t.Errorf("only %d powers are known", known)
	}
}

func TestPowersAtTheEdges(t *testing.T) {
	const one = impl.Unit
	integers := func(lo, hi int64) impl.Interval { return impl.Interval{Lo: lo * one, Hi: hi * one} }
	for _, c := range []struct {
		x    impl.Interval
		n    int64
		want impl.Interval
	}{
		{integers(2, 3), -1, whole}, {integers(2, 3), 17, whole}, {integers(1, 1), 17, whole}, {integers(1, 1), 18, whole},
		{integers(1, 1), -1, whole}, {integers(1, 1), math.MaxInt64, whole}, {integers(1, 1), math.MinInt64, whole},
		{integers(2, 3), 0, integers(1, 1)}, {integers(-2, 3), 0, integers(1, 1)}, {integers(0, 0), 0, integers(1, 1)}, {integers(-9, -9), 0, integers(1, 1)},
		{integers(-2, 3), 1, integers(-2, 3)}, {impl.Interval{Lo: -7, Hi: 9}, 1, impl.Interval{Lo: -7, Hi: 9}},
		{integers(2, 3), 2, integers(4, 9)}, {integers(-3, -2), 2, integers(4, 9)}, {integers(-3, 2), 2, integers(0, 9)}, {integers(-2, 3), 2, integers(0, 9)},
		{integers(-3, 0), 2, integers(0, 9)}, {integers(0, 3), 2, integers(0, 9)}, {integers(0, 0), 2, integers(0, 0)},
		{integers(2, 3), 3, integers(8, 27)}, {integers(-3, -2), 3, integers(-27, -8)}, {integers(-1, 2), 3, integers(-4, 8)}, {integers(-2, 1), 3, integers(-8, 4)},
		{integers(-1, 2), 4, integers(0, 16)}, {integers(-2, -2), 4, integers(16, 16)}, {integers(-2, -2), 5, integers(-32, -32)},
		{integers(3, 3), 16, integers(43046721, 43046721)}, {integers(-3, 1), 16, integers(0, 43046721)}, {integers(-1, -1), 15, integers(-1, -1)},
		{integers(5, 5), 12, integers(244140625, 244140625)}, {integers(-5, -5), 12, integers(244140625, 244140625)},
		{integers(5, 5), 13, whole}, {integers(-5, -5), 13, whole}, {integers(0, 5), 13, whole}, {integers(-5, 0), 14, whole},
		{integers(4, 4), 13, integers(1<<26, 1<<26)}, {integers(4, 4), 14, whole}, {integers(4, 4), 16, whole}, {integers(-4, 4), 16, whole},
		{integers(16383, 16384), 2, whole}, {integers(16383, 16383), 2, integers(16383*16383, 16383*16383)}, {integers(-16384, 1), 3, whole},
		{impl.Interval{Lo: 1, Hi: 1}, 2, impl.Interval{Lo: 0, Hi: 1}}, {impl.Interval{Lo: -1, Hi: -1}, 2, impl.Interval{Lo: 0, Hi: 1}},
		{impl.Interval{Lo: -1, Hi: -1}, 3, impl.Interval{Lo: -1, Hi: 0}}, {impl.Interval{Lo: 1, Hi: 1}, 16, impl.Interval{Lo: 0, Hi: 1}},
		{impl.Interval{Lo: one / 2, Hi: one / 2}, 16, impl.Interval{Lo: one >> 16, Hi: one >> 16}},
		{exactly(impl.MaxFix - 1), 1, exactly(impl.MaxFix - 1)}, {exactly(1 - impl.MaxFix), 1, exactly(1 - impl.MaxFix)},
	} {
		is(t, fmt.Sprint("PowerI", c.x, c.n), impl.PowerI(c.x, c.n), c.want)
	}
	for _, x := range wholes() {
		for n := int64(-2); n <= 18; n++ {
			is(t, fmt.Sprint("PowerI", x, n), impl.PowerI(x, n), whole)
		}
	}
	for _, n := range append(numbers(), fixes()...) {
		if n < 0 || n > 16 {
			is(t, fmt.Sprint("PowerI of 1 and ", n), impl.PowerI(impl.Integer(1), n), whole)
		}
	}
}

func TestPowersKeepSumsAndProducts(t *testing.T) {
	for _, x := range powerIntervals() {
		for a := range int64(9) {
			for b := range int64(9) {
				product := impl.MulI(impl.PowerI(x, a), impl.PowerI(x, b))
				is(t, fmt.Sprint("PowerI", x, a, b), impl.OverlapI(product, impl.PowerI(x, a+b)), true)
			}
		}
	}
	for _, n := range exponents() {
		for k := range int64(17) {
			name := fmt.Sprintf("the power %d of the exponential of %d", k, n)
			is(t, name, impl.OverlapI(impl.PowerI(impl.ExpAt(n), k), impl.ExpI(exactly(k*n))), true)
		}
	}
	for _, n := range positives() {
		for k := range int64(17) {
			power := impl.PowerI(exactly(n), k)
			if power == whole || power.Lo == 0 {
				continue
			}
			name := fmt.Sprintf("the logarithm of the power %d of %d", k, n)
			is(t, name, impl.OverlapI(impl.LogI(power), impl.MulI(impl.LogAt(n), impl.Integer(k))), true)
		}
	}
}
