package tests

import (
	"cmp"
	"fmt"
	"math"
	"math/big"
	"math/rand/v2"
	"slices"
	"testing"

	"loop.example/g00880/impl"
)

func TestLimitsOfPolynomials(t *testing.T) {
	is(t, "MaxCoefficients", impl.MaxCoefficients, 17)
	is(t, "MaxRootSteps", impl.MaxRootSteps, 60)
	is(t, "MaxPieces", impl.MaxPieces, 64)
}

// between returns the interval with two ends.
func between(lo, hi int64) impl.Interval { return impl.Interval{Lo: lo, Hi: hi} }

// polyOf returns the polynomial with integers as coefficients.
func polyOf(list ...int64) []impl.Interval {
	var p []impl.Interval
	for _, n := range list {
		p = append(p, impl.Integer(n))
	}
	return p
}

// unitPoly returns the polynomial with fixes as coefficients.
func unitPoly(list ...int64) []impl.Interval {
	var p []impl.Interval
	for _, n := range list {
		p = append(p, exactly(n))
	}
	return p
}

// powerPoly returns x^n + c.
func powerPoly(n int, c impl.Interval) []impl.Interval {
	p := make([]impl.Interval, n+1)
	p[0], p[n] = c, impl.Integer(1)
	return p
}

// repeated returns a list of equal intervals.
func repeated(x impl.Interval, count int) []impl.Interval {
	return slices.Repeat([]impl.Interval{x}, count)
}

// polynomials returns polynomials with roots of all kinds and without roots,
// with narrow and wide coefficients, and some random ones, the same ones in
// each run.
func polynomials() [][]impl.Interval {
	const one = impl.Unit
	list := [][]impl.Interval{
		polyOf(-2, 0, 1), polyOf(2, 0, 1), polyOf(0, 1), polyOf(0), polyOf(1), polyOf(-7), polyOf(0, 0, 0), polyOf(0, 0, 1),
		polyOf(1, -2, 1), polyOf(2, -3, 0, 1), polyOf(0, -1, 0, 1), polyOf(-6, 11, -6, 1), polyOf(-720, 1764, -1624, 735, -175, 21, -1),
		polyOf(0, 5, 0, -20, 0, 16), polyOf(-1, 0, 18, 0, -48, 0, 32), polyOf(1, 1, 1, 1, 1, 1, 1, 1, 1), polyOf(1, -4, 6, -4, 1),
		powerPoly(16, impl.Integer(-1)), powerPoly(16, impl.Integer(0)), powerPoly(16, exactly(-one/2)), powerPoly(15, between(one-9, one+9)),
		powerPoly(2, between(-9*one/4, -7*one/4)), powerPoly(2, between(-1, 1)), powerPoly(2, exactly(-1)), powerPoly(3, between(-one/8, one/8)),
		{between(-one, one)}, {between(1, one)}, {exactly(0), between(-1, 1)}, {exactly(-one), between(one, 2*one)}, {between(-3, 5), between(one-2, one+2)},
		unitPoly(1, 1, 1), unitPoly(-1, 3), unitPoly(-3, 2), unitPoly(5, -2), unitPoly(-one, 2*one+1, 7, -one), unitPoly(-1001, 2*one),
		unitPoly(impl.MaxFix-1, one), unitPoly(1-impl.MaxFix, 1-impl.MaxFix, 1), unitPoly(-one, impl.MaxFix-1, impl.MaxFix/2), unitPoly(0, -one, impl.MaxFix/2-1),
	}
	random := rand.New(rand.NewPCG(35, 36))
	for range 60 {
		p := make([]impl.Interval, 1+random.IntN(17))
		shift := 20 + random.IntN(12)
		for k := range p {
			lo := int64(random.Uint64()) >> (shift + random.IntN(8))
			p[k] = between(lo, lo+random.Int64N(1<<20)>>random.IntN(60))
		}
		list = append(list, p)
	}
	return list
}

// rootIntervals returns intervals in which roots are searched.
func rootIntervals() []impl.Interval {
	const one = impl.Unit
	return []impl.Interval{
		between(one, 2*one), between(-2*one, 2*one), between(-3*one, 4*one), between(0, 3*one), between(-one, one), between(0, one),
		between(-11*one/4, 13*one/4), between(-one/3, 5*one/7), between(-7*one-1, 9*one+4), between(-1000*one, 1000*one),
		exactly(0), exactly(one), exactly(-one), between(0, 1), between(-1, 0), between(1, 2), between(-1, 1), between(0, 2), between(-2, 1), between(500, 501),
		between(one-1, one), between(one-1, one+1), between(one, one+2), between(6074000999, 6074001000), between(6074000998, 6074001000),
		between(1-impl.MaxFix, impl.MaxFix-1), between(impl.MaxFix-2, impl.MaxFix-1),
	}
}

// noPolynomials returns lists that are no polynomials.
func noPolynomials() [][]impl.Interval {
	list := [][]impl.Interval{nil, {}, repeated(impl.Integer(1), 18), repeated(impl.Integer(0), 18), repeated(exactly(3), 40)}
	for i, w := range wholes() {
		list = append(list, []impl.Interval{w}, repeated(w, 17), repeated(w, 18))
		for k := range 1 + i%17 {
			p := repeated(impl.Integer(1), 1+i%17)
			p[k] = w
			list = append(list, p)
		}
	}
	return list
}

func TestPolynomialsAreValid(t *testing.T) {
	for n := range 40 {
		for _, x := range boundedIntervals() {
			is(t, fmt.Sprint(n, " times ", x), impl.ValidPoly(repeated(x, n)), 1 <= n && n <= 17)
		}
	}
	for _, p := range polynomials() {
		is(t, fmt.Sprint("ValidPoly", p), impl.ValidPoly(p), true)
	}
	for _, p := range noPolynomials() {
		is(t, fmt.Sprint("ValidPoly", p), impl.ValidPoly(p), false)
	}
}

// wantPolyAt returns what PolyAt should return for a polynomial at a bounded
// interval.
func wantPolyAt(p []impl.Interval, x impl.Interval) impl.Interval {
	if len(p) == 1 {
		return p[0]
	}
	return impl.AddI(impl.MulI(wantPolyAt(p[1:], x), x), p[0])
}

// exactMembers returns some of the polynomials for which a list stands.
func exactMembers(p []impl.Interval) []exactPoly {
	var list []exactPoly
	random := rand.New(rand.NewPCG(37, 38))
	for m := range 5 {
		var member []int64
		for _, c := range p {
			switch {
			case m == 0:
				member = append(member, c.Lo)
			case m == 1:
				member = append(member, c.Hi)
			case m < 4:
				member = append(member, []int64{c.Lo, c.Hi}[random.IntN(2)])
			default:
				member = append(member, c.Lo+random.Int64N(c.Hi-c.Lo+1))
			}
		}
		if q := exactPolyOf(member...); !slices.ContainsFunc(list, q.equals) {
			list = append(list, q)
		}
	}
	return list
}

// equals reports whether two polynomials are the same.
func (p exactPoly) equals(q exactPoly) bool {
	return slices.EqualFunc(p, q, func(x, y *big.Rat) bool { return x.Cmp(y) == 0 })
}

// units returns a number in units of 2^-32.
func units(x *big.Rat) *big.Rat { return new(big.Rat).Mul(x, unitRat()) }

func TestValuesOfPolynomialsAreEnclosed(t *testing.T) {
	known := 0
	for _, p := range polynomials() {
		for _, x := range rootIntervals() {
			name, got := fmt.Sprint("PolyAt", p, x), impl.PolyAt(p, x)
			is(t, name, got, wantPolyAt(p, x))
			if got == whole {
				continue
			}
			known++
			for _, q := range exactMembers(p) {
				for _, n := range members(x) {
					if y := q.at(ratOf(n)); !isIn(units(y), got) {
						t.Errorf("%s: %v does not contain the value at %d", name, got, n)
					}
				}
			}
			for _, part := range parts(x) {
				is(t, fmt.Sprint(name, " and ", part), isPart(impl.PolyAt(p, part), got), true)
			}
		}
	}
	if known < 1000 {
		t.Errorf("only %d values are known", known)
	}
}

func TestValuesOfPolynomialsAtTheEdges(t *testing.T) {
	const one = impl.Unit
	for _, c := range []struct {
		p       []impl.Interval
		x, want impl.Interval
	}{
		{polyOf(-2, 0, 1), between(one, 2*one), between(-one, 2*one)},
		{polyOf(-2, 0, 1), exactly(-3 * one), exactly(7 * one)},
		{polyOf(5), exactly(9 * one), exactly(5 * one)},
		{[]impl.Interval{between(-3, 8)}, between(-one, one), between(-3, 8)},
		{polyOf(1, 2, 3), impl.Integer(10), impl.Integer(321)},
		{polyOf(1, 2, 3), between(-one, one), between(-4*one, 6*one)},   // x^2 is x times x here
		{polyOf(0, 0, 1), between(-one, 2*one), between(-2*one, 4*one)}, //
		{unitPoly(0, 1), exactly(1), between(0, 1)},
		{unitPoly(0, 0, 1), exactly(one / 2), between(0, 1)},
		{unitPoly(0, 0, 3), exactly(-one / 2), between(0, 1)}, // -2 to -1, and then 0.5 to 1
		{polyOf(0, 1), exactly(impl.MaxFix - 1), exactly(impl.MaxFix - 1)},
		{polyOf(0, 2), exactly(impl.MaxFix / 2), whole},
		{polyOf(0, 2), exactly(impl.MaxFix/2 - 1), exactly(impl.MaxFix - 2)},
		{polyOf(-1, 2), exactly(impl.MaxFix / 2), whole}, // the product is no fix, but the difference is one
		{repeated(impl.Integer(1), 17), impl.Integer(-1), impl.Integer(1)},
		{repeated(impl.Integer(1), 17), impl.Integer(3), impl.Integer(64570081)},
		{repeated(impl.Integer(1), 18), impl.Integer(-1), whole},
		{repeated(impl.Integer(1), 18), impl.Integer(0), whole},
		{nil, impl.Integer(1), whole},
	} {
		is(t, fmt.Sprint("PolyAt", c.p, c.x), impl.PolyAt(c.p, c.x), c.want)
	}
}

func TestValuesThatAreNotKnownAreWhole(t *testing.T) {
	for _, p := range noPolynomials() {
		for _, x := range append(rootIntervals(), wholes()...) {
			is(t, fmt.Sprint("PolyAt", p, x), impl.PolyAt(p, x), whole)
		}
	}
	for _, p := range polynomials() {
		for _, x := range wholes() {
			is(t, fmt.Sprint("PolyAt", p, x), impl.PolyAt(p, x), whole)
		}
	}
}

// asPoly returns the polynomial with some coefficients, and OK, or no
// polynomial, and the error.
func asPoly(p []impl.Interval) ([]impl.Interval, int64) {
	switch {
	case len(p) > 17:
		return nil, impl.ErrFull
	case slices.Contains(p, whole):
		return nil, impl.ErrUnknown
	}
	return p, impl.OK
}

// wantDerivative returns what PolyDerivative should return for a polynomial.
func wantDerivative(p []impl.Interval) ([]impl.Interval, int64) {
	if len(p) == 1 {
		return polyOf(0), impl.OK
	}
	var d []impl.Interval
	for k := 1; k < len(p); k++ {
		factor := big.NewInt(int64(k))
		d = append(d, fromTo(new(big.Int).Mul(factor, big.NewInt(p[k].Lo)), new(big.Int).Mul(factor, big.NewInt(p[k].Hi))))
	}
	return asPoly(d)
}

// wantSum returns what AddPolys should return for polynomials.
func wantSum(a, b []impl.Interval) ([]impl.Interval, int64) {
	var sum []impl.Interval
	for k := range max(len(a), len(b)) {
		lo, hi := new(big.Int), new(big.Int)
		for _, p := range [][]impl.Interval{a, b} {
			if k < len(p) {
				lo.Add(lo, big.NewInt(p[k].Lo))
				hi.Add(hi, big.NewInt(p[k].Hi))
			}
		}
		sum = append(sum, fromTo(lo, hi))
	}
	return asPoly(sum)
}

// wantProduct returns what MulPolys should return for polynomials. It adds the
// products of each coefficient of a to all coefficients at once.
func wantProduct(a, b []impl.Interval) ([]impl.Interval, int64) {
	sums := repeated(impl.Integer(0), len(a)+len(b)-1)
	for i, x := range a {
		for k, y := range b {
			sums[i+k] = impl.AddI(sums[i+k], impl.MulI(x, y))
		}
	}
	return asPoly(sums)
}

// isPoly compares a polynomial and a code with those that are wanted.
func isPoly(t *testing.T, name string, got []impl.Interval, code int64, want []impl.Interval, wantCode int64) {
	t.Helper()
	is(t, "the code of "+name, code, wantCode)
	if !slices.Equal(got, want) {
		t.Errorf("%s: got %v, want %v", name, got, want)
	}
}

func TestDerivativesHaveAllCoefficients(t *testing.T) {
	for _, p := range polynomials() {
		got, code := impl.PolyDerivative(p)
		want, wantCode := wantDerivative(p)
		isPoly(t, fmt.Sprint("PolyDerivative", p), got, code, want, wantCode)
	}
	const most = impl.MaxFix - 1
	for _, c := range []struct {
		p, want []impl.Interval
		code    int64
	}{
		{polyOf(-2, 0, 1), polyOf(0, 2), impl.OK},
		{polyOf(7), polyOf(0), impl.OK},
		{unitPoly(most), polyOf(0), impl.OK},
		{unitPoly(most, most), unitPoly(most), impl.OK},
		{[]impl.Interval{between(-1, 1), between(-2, 3), between(-5, 7)}, []impl.Interval{between(-2, 3), between(-10, 14)}, impl.OK},
		{repeated(impl.Integer(1), 17), polyOf(1, 2, 3, 4, 5, 6, 7, 8, 9, 10, 11, 12, 13, 14, 15, 16), impl.OK},
		{unitPoly(0, 0, impl.MaxFix/2-1), unitPoly(0, impl.MaxFix-2), impl.OK},
		{unitPoly(0, 0, impl.MaxFix/2), nil, impl.ErrUnknown},
		{unitPoly(0, 0, -impl.MaxFix/2), nil, impl.ErrUnknown},
		{unitPoly(0, 0, 0, impl.MaxFix/3), unitPoly(0, 0, impl.MaxFix-1), impl.OK},
		{unitPoly(0, 0, 0, impl.MaxFix/3+1, 1), nil, impl.ErrUnknown},
		{powerPoly(16, impl.Integer(0)), append(polyOf(0, 0, 0, 0, 0, 0, 0, 0, 0, 0, 0, 0, 0, 0, 0), impl.Integer(16)), impl.OK},
	} {
		got, code := impl.PolyDerivative(c.p)
		isPoly(t, fmt.Sprint("PolyDerivative", c.p), got, code, c.want, c.code)
	}
}

func TestSumsAndProductsHaveAllCoefficients(t *testing.T) {
	list := polynomials()
	for i, a := range list {
		for k, b := range list {
			if (i+k)%3 != 0 {
				continue
			}
			got, code := impl.AddPolys(a, b)
			want, wantCode := wantSum(a, b)
			isPoly(t, fmt.Sprint("AddPolys", a, b), got, code, want, wantCode)
			got, code = impl.MulPolys(a, b)
			want, wantCode = wantProduct(a, b)
			isPoly(t, fmt.Sprint("MulPolys", a, b), got, code, want, wantCode)
		}
	}
}

func TestSumsOfPolynomialsAtTheEdges(t *testing.T) {
	const half = impl.MaxFix / 2
	for _, c := range []struct {
		a, b, want []impl.Interval
		code       int64
	}{
		{polyOf(1, 2, 3), polyOf(10), polyOf(11, 2, 3), impl.OK},
		{polyOf(10), polyOf(1, 2, 3), polyOf(11, 2, 3), impl.OK},
		{polyOf(1, 2), polyOf(-1, -2), polyOf(0, 0), impl.OK}, // zeros at the end stay
		{polyOf(5), polyOf(-5), polyOf(0), impl.OK},
		{[]impl.Interval{between(-1, 2)}, []impl.Interval{between(-3, 5), between(-7, 9)}, []impl.Interval{between(-4, 7), between(-7, 9)}, impl.OK},
		{repeated(impl.Integer(1), 17), polyOf(1), append(polyOf(2), repeated(impl.Integer(1), 16)...), impl.OK},
		{repeated(impl.Integer(1), 17), repeated(impl.Integer(2), 17), repeated(impl.Integer(3), 17), impl.OK},
		{unitPoly(half, 7), unitPoly(half - 1), unitPoly(impl.MaxFix-1, 7), impl.OK},
		{unitPoly(half), unitPoly(half), nil, impl.ErrUnknown},
		{unitPoly(-half, 1), unitPoly(-half, 1), nil, impl.ErrUnknown},
		{unitPoly(1, half, 1), unitPoly(1, half), nil, impl.ErrUnknown},
	} {
		got, code := impl.AddPolys(c.a, c.b)
		isPoly(t, fmt.Sprint("AddPolys", c.a, c.b), got, code, c.want, c.code)
	}
}

func TestProductsOfPolynomialsAtTheEdges(t *testing.T) {
	const one, part = impl.Unit, impl.MaxFix / 10
	ones := func(count int) []impl.Interval { return repeated(impl.Integer(1), count) }
	// The products of the index 2 are 6, 6 and -3 tenths of MaxFix, in the order
	// of the indices of the first polynomial.
	short, long := unitPoly(one, one, one/2), unitPoly(-6*part, 6*part, 6*part)
	for _, c := range []struct {
		a, b, want []impl.Interval
		code       int64
	}{
		{polyOf(-1, 1), polyOf(2, 1), polyOf(-2, 1, 1), impl.OK},
		{polyOf(2, 1), polyOf(-1, 1), polyOf(-2, 1, 1), impl.OK},
		{polyOf(3), polyOf(1, 2, 3), polyOf(3, 6, 9), impl.OK},
		{polyOf(0), polyOf(1, 2, 3), polyOf(0, 0, 0), impl.OK},
		{polyOf(3), polyOf(-5), polyOf(-15), impl.OK},
		{polyOf(1, 2, 3), polyOf(4, 5, 6), polyOf(4, 13, 28, 27, 18), impl.OK},
		{unitPoly(1), unitPoly(1, -1), []impl.Interval{between(0, 1), between(-1, 0)}, impl.OK},
		{unitPoly(1, 1), unitPoly(1, 1), []impl.Interval{between(0, 1), between(0, 2), between(0, 1)}, impl.OK},
		{ones(9), ones(9), polyOf(1, 2, 3, 4, 5, 6, 7, 8, 9, 8, 7, 6, 5, 4, 3, 2, 1), impl.OK},
		{ones(17), polyOf(2), repeated(impl.Integer(2), 17), impl.OK},
		{polyOf(2), ones(17), repeated(impl.Integer(2), 17), impl.OK},
		{ones(17), ones(2), nil, impl.ErrFull},
		{ones(2), ones(17), nil, impl.ErrFull},
		{ones(10), ones(9), nil, impl.ErrFull},
		{ones(17), ones(17), nil, impl.ErrFull},
		{repeated(impl.Integer(20000), 9), repeated(impl.Integer(20000), 10), nil, impl.ErrFull},
		{repeated(impl.Integer(20000), 9), repeated(impl.Integer(20000), 9), nil, impl.ErrUnknown},
		{polyOf(1, 20000), polyOf(1, 20000), nil, impl.ErrUnknown},
		{polyOf(20000, 1), polyOf(20000), nil, impl.ErrUnknown},
		{short, long, nil, impl.ErrUnknown},
		{long, short, unitPoly(-6*part, 0, 9*part, 9*part, 3*part), impl.OK},
	} {
		got, code := impl.MulPolys(c.a, c.b)
		isPoly(t, fmt.Sprint("MulPolys", c.a, c.b), got, code, c.want, c.code)
	}
}

func TestOperationsOnOtherListsAreInvalid(t *testing.T) {
	good := append(polynomials(), unitPoly(impl.MaxFix-1, impl.MaxFix-1, impl.MaxFix-1))
	bad := noPolynomials()
	for i, p := range bad {
		got, code := impl.PolyDerivative(p)
		isPoly(t, fmt.Sprint("PolyDerivative", p), got, code, nil, impl.ErrInvalid)
		for _, q := range append(good, bad[(i*7+1)%len(bad)], repeated(impl.Integer(1), 17)) {
			for _, f := range []func(a, b []impl.Interval) ([]impl.Interval, int64){impl.AddPolys, impl.MulPolys} {
				got, code = f(p, q)
				isPoly(t, fmt.Sprint("with ", p, q), got, code, nil, impl.ErrInvalid)
				got, code = f(q, p)
				isPoly(t, fmt.Sprint("with ", q, p), got, code, nil, impl.ErrInvalid)
			}
		}
	}
}

func TestOperationsOnPolynomialsFitTogether(t *testing.T) {
	list := polynomials()
	known := 0
	for i, a := range list {
		for k, b := range list {
			if (i*3+k)%5 != 0 {
				continue
			}
			sum, sumCode := impl.AddPolys(a, b)
			product, productCode := impl.MulPolys(a, b)
			for _, x := range rootIntervals() {
				name := fmt.Sprint(a, b, x)
				if sumCode == impl.OK {
					is(t, "the sum of "+name, impl.OverlapI(impl.PolyAt(sum, x), impl.AddI(impl.PolyAt(a, x), impl.PolyAt(b, x))), true)
				}
				if productCode == impl.OK {
					known++
					is(t, "the product of "+name, impl.OverlapI(impl.PolyAt(product, x), impl.MulI(impl.PolyAt(a, x), impl.PolyAt(b, x))), true)
				}
			}
		}
	}
	if known < 1000 {
		t.Errorf("only %d products are known", known)
	}
}

func TestSignsOfIntervals(t *testing.T) {
	for _, x := range boundedIntervals() {
		want := int64(0)
		if !hasZero(x) {
			want = int64(big.NewInt(x.Lo).Sign())
		}
		is(t, fmt.Sprint("SignI", x), impl.SignI(x), want)
	}
	for x, want := range map[impl.Interval]int64{
		between(0, 0): 0, between(0, 1): 0, between(-1, 0): 0, between(-1, 1): 0, between(1, 1): 1, between(-1, -1): -1,
		between(1, impl.MaxFix-1): 1, between(1-impl.MaxFix, -1): -1, between(1-impl.MaxFix, 0): 0, between(0, impl.MaxFix-1): 0,
		between(1, impl.MaxFix): 0, between(-impl.MaxFix, -1): 0, between(2, 1): 0, between(-1, -2): 0,
	} {
		is(t, fmt.Sprint("SignI", x), impl.SignI(x), want)
	}
	for _, x := range wholes() {
		is(t, fmt.Sprint("SignI", x), impl.SignI(x), 0)
	}
}

// wantSign returns the sign of a polynomial at a fix.
func wantSign(p []impl.Interval, n int64) int64 { return impl.SignI(wantPolyAt(p, exactly(n))) }

// wantChange returns what SignChange should return for a polynomial and a
// bounded interval.
func wantChange(p []impl.Interval, x impl.Interval) int64 {
	first, last := wantSign(p, x.Lo), wantSign(p, x.Hi)
	switch {
	case first == 0 || last == 0:
		return impl.AnUnknown
	case first != last:
		return impl.AnYes
	}
	return impl.AnNo
}

// wantUnique returns what UniqueRoot should return for a polynomial and a
// bounded interval.
func wantUnique(p []impl.Interval, x impl.Interval) bool {
	slope, code := wantDerivative(p)
	return wantChange(p, x) == impl.AnYes && code == impl.OK && impl.SignI(wantPolyAt(slope, x)) != 0
}

// hasOneRootEach requires that an interval contains exactly one root of each
// member of a polynomial.
func hasOneRootEach(t *testing.T, name string, chains []chain, x impl.Interval) {
	t.Helper()
	for _, c := range chains {
		if count := c.inClosed(x.Lo, x.Hi); count != 1 {
			t.Errorf("%s: there are %d roots in %v", name, count, x)
		}
	}
}

// chainsOf returns the chains of some members of a polynomial. There is no
// chain of the polynomial 0.
func chainsOf(p []impl.Interval) []chain {
	var list []chain
	for _, q := range exactMembers(p) {
		if len(q) > 0 {
			list = append(list, chainOf(q))
		}
	}
	return list
}

func TestCertifiedIntervalsContainExactlyOneRoot(t *testing.T) {
	answers := map[int64]int{}
	unique := 0
	for _, p := range polynomials() {
		chains := chainsOf(p)
		for _, x := range rootIntervals() {
			name := fmt.Sprint(p, x)
			change, got := impl.SignChange(p, x), impl.UniqueRoot(p, x)
			is(t, "SignChange "+name, change, wantChange(p, x))
			is(t, "UniqueRoot "+name, got, wantUnique(p, x))
			answers[change]++
			if got {
				unique++
				hasOneRootEach(t, name, chains, x)
			}
		}
	}
	if len(answers) != 3 || answers[impl.AnYes] < 100 || unique < 50 {
		t.Errorf("the answers are %v, and %d roots are unique", answers, unique)
	}
}

func TestSignChangesAndUniqueRootsAtTheEdges(t *testing.T) {
	const one, most = impl.Unit, impl.MaxFix - 1
	for _, c := range []struct {
		p      []impl.Interval
		x      impl.Interval
		change int64
		unique bool
	}{
		{polyOf(-2, 0, 1), between(one, 2*one), impl.AnYes, true},
		{polyOf(2, 0, -1), between(one, 2*one), impl.AnYes, true},
		{polyOf(-2, 0, 1), between(-2*one, -one), impl.AnYes, true},
		{polyOf(-2, 0, 1), between(-2*one, 2*one), impl.AnNo, false},
		{polyOf(-2, 0, 1), between(-one, one), impl.AnNo, false},
		{polyOf(-2, 0, 1), between(0, 2*one), impl.AnYes, false}, // the derivative touches 0
		{polyOf(-2, 0, 1), between(1, 2*one), impl.AnYes, true},
		{polyOf(-1, 0, 1), between(one, 2*one), impl.AnUnknown, false}, // the root is an end
		{polyOf(-1, 0, 1), between(one/2, one), impl.AnUnknown, false},
		{polyOf(-1, 0, 1), between(-one, one), impl.AnUnknown, false},
		{polyOf(-1, 0, 1), between(one-1, one+1), impl.AnYes, true},
		{polyOf(-1, 1), exactly(one), impl.AnUnknown, false},
		{polyOf(-1, 1), exactly(one + 1), impl.AnNo, false},
		{polyOf(-1, 1), between(one, one+1), impl.AnUnknown, false},
		{polyOf(-1, 1), between(one-1, one), impl.AnUnknown, false},
		{polyOf(-1, 1), between(one-1, one+1), impl.AnYes, true},
		{polyOf(0, -1, 0, 1), between(-2*one, 2*one), impl.AnYes, false}, // three roots
		{polyOf(0, 0, 0, 1), between(-one, one), impl.AnYes, false},      // one root three times
		{polyOf(1, -2, 1), between(0, 2*one), impl.AnNo, false},          // one root twice
		{polyOf(3), between(0, one), impl.AnNo, false},
		{polyOf(-3), between(0, one), impl.AnNo, false},
		{polyOf(0), between(0, one), impl.AnUnknown, false},
		{[]impl.Interval{between(-1, 1), impl.Integer(1)}, between(-2, 2), impl.AnYes, true},
		{[]impl.Interval{between(-1, 1), impl.Integer(1)}, between(-1, 2), impl.AnUnknown, false},
		{[]impl.Interval{between(-1, 1), impl.Integer(1)}, between(-2, 1), impl.AnUnknown, false},
		{[]impl.Interval{impl.Integer(-1), between(0, one)}, between(-one, 2*one), impl.AnUnknown, false},
		{[]impl.Interval{impl.Integer(-1), between(one, 2*one)}, between(0, 2*one), impl.AnYes, true},
		{unitPoly(-1001, 2*one), between(500, 501), impl.AnYes, true},
		// The derivative is no polynomial, or its values are not known.
		{unitPoly(-2*one, 0, 0, most/2), between(one/1024, one), impl.AnYes, false},
		{unitPoly(-one, 0, most/2), between(one/65536, one+9), impl.AnYes, false},
		{unitPoly(-one, 0, most/2), between(one/65536, one), impl.AnYes, true},
		{unitPoly(-one, most), between(0, one), impl.AnYes, true},
		{unitPoly(-one, most), between(0, one+9), impl.AnUnknown, false},
	} {
		name := fmt.Sprint(c.p, c.x)
		is(t, "SignChange "+name, impl.SignChange(c.p, c.x), c.change)
		is(t, "UniqueRoot "+name, impl.UniqueRoot(c.p, c.x), c.unique)
	}
}

func TestSignsOfOtherListsAndIntervalsAreUnknown(t *testing.T) {
	for _, p := range noPolynomials() {
		for _, x := range append(rootIntervals(), wholes()...) {
			is(t, fmt.Sprint("SignChange", p, x), impl.SignChange(p, x), impl.AnUnknown)
			is(t, fmt.Sprint("UniqueRoot", p, x), impl.UniqueRoot(p, x), false)
		}
	}
	for _, p := range append(polynomials(), polyOf(-1, 1), unitPoly(-9, 2)) {
		for _, x := range append(wholes(), between(2*impl.Unit, 0), between(5, 4)) {
			is(t, fmt.Sprint("SignChange", p, x), impl.SignChange(p, x), impl.AnUnknown)
			is(t, fmt.Sprint("UniqueRoot", p, x), impl.UniqueRoot(p, x), false)
		}
	}
}

// search is a search for a root.
type search struct {
	name string
	run  func(p []impl.Interval, x impl.Interval, steps int64) (impl.Interval, int64)
	step func(p []impl.Interval, x impl.Interval) impl.Interval
}

// searches returns the searches with their steps. A step that ends the search
// returns the same interval, and so do those that would follow.
func searches() []search {
	return []search{{"BisectRoot", impl.BisectRoot, wantHalf}, {"NewtonRoot", impl.NewtonRoot, wantNewton}}
}

// wantHalf returns the interval after a step of BisectRoot.
func wantHalf(p []impl.Interval, x impl.Interval) impl.Interval {
	m := x.Lo + (x.Hi-x.Lo)/2
	sign := wantSign(p, m)
	if m == x.Lo || m == x.Hi || sign == 0 {
		return x
	}
	if sign == wantSign(p, x.Lo) {
		return between(m, x.Hi)
	}
	return between(x.Lo, m)
}

// wantNewton returns the interval after a step of NewtonRoot.
func wantNewton(p []impl.Interval, x impl.Interval) impl.Interval {
	slope, _ := wantDerivative(p)
	m := exactly(x.Lo + (x.Hi-x.Lo)/2)
	y := impl.SubI(m, impl.DivI(wantPolyAt(p, m), wantPolyAt(slope, x)))
	return between(max(x.Lo, y.Lo), min(x.Hi, y.Hi))
}

// wantSearch returns what a search should return.
func wantSearch(s search, p []impl.Interval, x impl.Interval, steps int64) (impl.Interval, int64) {
	switch {
	case steps < 0 || steps > 60:
		return impl.Interval{}, impl.ErrRange
	case !wantUnique(p, x):
		return impl.Interval{}, impl.ErrState
	}
	for range steps {
		x = s.step(p, x)
	}
	return x, impl.OK
}

var stepNumbers = []int64{-1, 0, 1, 2, 3, 5, 10, 31, 59, 60, 61, 62, math.MaxInt64, math.MinInt64}

func TestSearchesContainTheRoot(t *testing.T) {
	found := 0
	for _, p := range polynomials() {
		chains := chainsOf(p)
		for _, x := range rootIntervals() {
			for _, s := range searches() {
				for _, steps := range stepNumbers {
					name := fmt.Sprint(s.name, p, x, steps)
					got, code := s.run(p, x, steps)
					want, wantCode := wantSearch(s, p, x, steps)
					is(t, name, got, want)
					is(t, "the code of "+name, code, wantCode)
					if code != impl.OK {
						continue
					}
					found++
					is(t, name+" is a part", isPart(got, x), true)
					hasOneRootEach(t, name, chains, got)
				}
			}
		}
	}
	if found < 1000 {
		t.Errorf("only %d roots were found", found)
	}
}

func TestSearchesAreNarrow(t *testing.T) {
	const one = impl.Unit
	// The root of 2 is between 6074000999 and 6074001000. At the latter, which is
	// a middle of the bisection, the sign is not known.
	root, half := between(6074000999, 6074001000), between(6074000992, 6074001008)
	for _, c := range []struct {
		run   func(p []impl.Interval, x impl.Interval, steps int64) (impl.Interval, int64)
		steps int64
		want  impl.Interval
	}{
		{impl.BisectRoot, 0, between(one, 2*one)},
		{impl.BisectRoot, 1, between(one, 3*one/2)},
		{impl.BisectRoot, 2, between(5*one/4, 3*one/2)},
		{impl.BisectRoot, 3, between(11*one/8, 3*one/2)},
		{impl.BisectRoot, 28, half},
		{impl.BisectRoot, 29, half},
		{impl.BisectRoot, 60, half},
		{impl.NewtonRoot, 0, between(one, 2*one)},
		{impl.NewtonRoot, 1, between(11*one/8, 23*one/16)},
		{impl.NewtonRoot, 60, root},
	} {
		got, code := c.run(polyOf(-2, 0, 1), between(one, 2*one), c.steps)
		is(t, fmt.Sprint(c.steps, " steps"), got, c.want)
		is(t, fmt.Sprint("the code of ", c.steps, " steps"), code, impl.OK)
	}
}

func TestSearchesInNarrowIntervals(t *testing.T) {
	const one = impl.Unit
	wide, steep := unitPoly(-1001, 2*one), unitPoly(-3003, 6*one) // with the root 500.5 units
	twice := []impl.Interval{between(-3, 3), impl.Integer(1)}
	for _, c := range []struct {
		p, x []impl.Interval // x, and the intervals that are found by bisection and by Newton's method
		code int64
	}{
		{polyOf(-1, 1), []impl.Interval{exactly(one), {}, {}}, impl.ErrState},
		{polyOf(-1, 1), []impl.Interval{exactly(one - 1), {}, {}}, impl.ErrState},
		{polyOf(-1, 1), []impl.Interval{between(one-1, one), {}, {}}, impl.ErrState},
		{polyOf(-1, 1), []impl.Interval{between(one, one+1), {}, {}}, impl.ErrState},
		{polyOf(-1, 1), []impl.Interval{between(one-1, one+1), between(one-1, one+1), exactly(one)}, impl.OK}, // the sign at the middle is 0
		{polyOf(-1, 1), []impl.Interval{between(0, 2*one), between(0, 2*one), exactly(one)}, impl.OK},
		{polyOf(1, -1), []impl.Interval{between(one-4, one+4), between(one-4, one+4), exactly(one)}, impl.OK},
		{wide, []impl.Interval{between(500, 501), between(500, 501), between(500, 501)}, impl.OK},
		{wide, []impl.Interval{between(499, 501), between(500, 501), between(500, 501)}, impl.OK},
		{wide, []impl.Interval{between(500, 502), between(500, 501), between(500, 501)}, impl.OK},
		{steep, []impl.Interval{between(500, 502), between(500, 501), between(500, 501)}, impl.OK},
		{wide, []impl.Interval{between(499, 502), between(500, 501), between(500, 501)}, impl.OK},
		{wide, []impl.Interval{between(501, 502), {}, {}}, impl.ErrState},
		{wide, []impl.Interval{exactly(500), {}, {}}, impl.ErrState},
		{twice, []impl.Interval{between(-100, 100), between(-100, 100), between(-3, 3)}, impl.OK},
		{twice, []impl.Interval{between(-5, 100), between(-5, 8), between(-3, 3)}, impl.OK}, // the middles are 47, 21 and 8, where the signs are known, and then 1
	} {
		for k, s := range searches() {
			name := fmt.Sprint(s.name, c.p, c.x[0])
			for _, steps := range []int64{59, 60} {
				got, code := s.run(c.p, c.x[0], steps)
				is(t, name, got, c.x[k+1])
				is(t, "the code of "+name, code, c.code)
			}
			got, code := s.run(c.p, c.x[0], 0)
			is(t, "the code of "+name+" without a step", code, c.code)
			if code == impl.OK {
				is(t, name+" without a step", got, c.x[0])
			}
		}
	}
}

func TestSearchesReportTheFirstError(t *testing.T) {
	const one = impl.Unit
	good, x := polyOf(-2, 0, 1), between(one, 2*one)
	for _, s := range searches() {
		for _, steps := range stepNumbers {
			for _, p := range append(noPolynomials(), good) {
				for _, w := range wholes() {
					isError(t, s, p, w, steps, impl.ErrInvalid)
				}
			}
			for _, p := range noPolynomials() {
				isError(t, s, p, x, steps, impl.ErrInvalid)
				isError(t, s, p, exactly(0), steps, impl.ErrInvalid)
			}
			if steps < 0 || steps > 60 {
				isError(t, s, good, x, steps, impl.ErrRange)
				isError(t, s, good, exactly(0), steps, impl.ErrRange)
				isError(t, s, polyOf(0), x, steps, impl.ErrRange)
			} else {
				isError(t, s, good, exactly(0), steps, impl.ErrState)
				isError(t, s, good, between(-2*one, 2*one), steps, impl.ErrState)
				isError(t, s, polyOf(0), x, steps, impl.ErrState)
			}
		}
	}
}

// isError requires that a search returns an error.
func isError(t *testing.T, s search, p []impl.Interval, x impl.Interval, steps, want int64) {
	t.Helper()
	got, code := s.run(p, x, steps)
	name := fmt.Sprint(s.name, p, x, steps)
	is(t, name, got, impl.Interval{})
	is(t, "the code of "+name, code, want)
}

// partition divides an interval as RootsIn does, whatever the number of parts.
type partition struct {
	p, slope          []impl.Interval
	certain, doubtful []impl.Interval
}

// wantPartition returns what RootsIn should find; no more if there are more
// than a hundred parts.
func wantPartition(p []impl.Interval, x impl.Interval, depth int64) *partition {
	all := &partition{p: p}
	all.slope, _ = wantDerivative(p)
	all.divide(x, depth)
	return all
}

func (all *partition) count() int { return len(all.certain) + len(all.doubtful) }

// hasNoRoot reports whether it is certain that there is no root in x.
func (all *partition) hasNoRoot(x impl.Interval) bool {
	if impl.SignI(wantPolyAt(all.p, x)) != 0 {
		return true
	}
	if all.slope == nil {
		return false
	}
	m := exactly(impl.MidI(x))
	near := impl.MulI(wantPolyAt(all.slope, x), impl.SubI(x, m))
	return impl.SignI(impl.AddI(wantPolyAt(all.p, m), near)) != 0
}

// divide divides a part.
func (all *partition) divide(x impl.Interval, depth int64) {
	switch {
	case all.count() > 100 || all.hasNoRoot(x):
	case wantUnique(all.p, x):
		all.certain = append(all.certain, x)
	case depth == 0 || x.Hi-x.Lo < 2:
		all.doubtful = append(all.doubtful, x)
	default:
		m := impl.MidI(x)
		all.divide(between(x.Lo, m), depth-1)
		all.divide(between(m, x.Hi), depth-1)
	}
}

// isRoots compares the results of RootsIn with those that are wanted.
func isRoots(t *testing.T, p []impl.Interval, x impl.Interval, depth int64, certain, doubtful []impl.Interval, wantCode int64) {
	t.Helper()
	name := fmt.Sprint("RootsIn", p, x, depth)
	ones, others, code := impl.RootsIn(p, x, depth)
	is(t, "the code of "+name, code, wantCode)
	if !slices.Equal(ones, certain) || !slices.Equal(others, doubtful) {
		t.Errorf("%s: got %v and %v, want %v and %v", name, ones, others, certain, doubtful)
	}
}

// hasAllRoots requires that the lists are in ascending order, that intervals of
// the first one contain exactly one root, and that there is no root in x beside
// all of them.
func hasAllRoots(t *testing.T, name string, chains []chain, x impl.Interval, certain, doubtful []impl.Interval) {
	t.Helper()
	all := slices.Concat(certain, doubtful)
	slices.SortFunc(all, func(a, b impl.Interval) int { return cmp.Compare(a.Lo, b.Lo) })
	for _, list := range [][]impl.Interval{certain, doubtful, all} {
		for k := range max(0, len(list)-1) {
			is(t, name+" in ascending order", list[k].Hi <= list[k+1].Lo, true)
		}
	}
	for _, part := range certain {
		hasOneRootEach(t, name, chains, part)
	}
	for _, c := range chains {
		if len(all) == 0 {
			is(t, name+" without a root", c.inClosed(x.Lo, x.Hi), 0)
			continue
		}
		end := x.Lo
		for _, part := range all {
			is(t, name+" between the parts", c.inOpen(end, part.Lo), 0)
			end = part.Hi
		}
		is(t, name+" behind the parts", c.inOpen(end, x.Hi), 0)
		is(t, name+" at the first end", all[0].Lo == x.Lo || !c.isRoot(x.Lo), true)
		is(t, name+" at the last end", end == x.Hi || !c.isRoot(x.Hi), true)
	}
}

func TestAllRootsAreFound(t *testing.T) {
	codes, certain, doubtful := map[int64]int{}, 0, 0
	for _, p := range polynomials() {
		chains := chainsOf(p)
		for i, x := range rootIntervals() {
			for _, depth := range []int64{0, 1, 2, int64(i%7 + 3), int64(i + 10), 60} {
				want := wantPartition(p, x, depth)
				if want.count() > 64 {
					isRoots(t, p, x, depth, nil, nil, impl.ErrFull)
					codes[impl.ErrFull]++
					continue
				}
				isRoots(t, p, x, depth, want.certain, want.doubtful, impl.OK)
				codes[impl.OK]++
				certain, doubtful = certain+len(want.certain), doubtful+len(want.doubtful)
				hasAllRoots(t, fmt.Sprint("RootsIn", p, x, depth), chains, x, want.certain, want.doubtful)
			}
		}
	}
	if codes[impl.OK] < 1000 || codes[impl.ErrFull] < 100 || certain < 500 || doubtful < 500 {
		t.Errorf("the codes are %v; there are %d certain and %d doubtful intervals", codes, certain, doubtful)
	}
}

// factors returns the product of the polynomials x - r for some integers r.
func factors(roots ...int64) []impl.Interval {
	p := polyOf(1)
	for _, r := range roots {
		p, _ = impl.MulPolys(p, polyOf(-r, 1))
	}
	return p
}

func TestIntegerRootsAreFound(t *testing.T) {
	const one = impl.Unit
	x := between(-37*one/4-1234567, 39*one/4+7654321) // none of the roots is at a division
	for a := int64(-9); a <= 9; a++ {
		for b := a + 1; b <= 9; b++ {
			for c := b + 1; c <= 9; c += 2 {
				p := factors(a, b, c)
				certain, doubtful, code := impl.RootsIn(p, x, 40)
				name := fmt.Sprint("the roots ", a, b, c)
				is(t, "the code of "+name, code, impl.OK)
				is(t, "the number of "+name, len(certain), 3)
				is(t, "the number of others beside "+name, len(doubtful), 0)
				for k, r := range []int64{a, b, c} {
					if k < len(certain) {
						is(t, name, impl.HasI(certain[k], r*one), true)
						half, _ := impl.BisectRoot(p, certain[k], 60)
						newton, _ := impl.NewtonRoot(p, certain[k], 60)
						is(t, name+" by bisection", impl.HasI(half, r*one), true)
						is(t, name+" by Newton's method", impl.HasI(newton, r*one), true)
					}
				}
			}
		}
	}
}

// cells returns count intervals of a width, one behind the other.
func cells(lo, width int64, count int) []impl.Interval {
	var list []impl.Interval
	for range count {
		list = append(list, between(lo, lo+width))
		lo += width
	}
	return list
}

func TestRootsOfPolynomialsAtTheEdges(t *testing.T) {
	const one = impl.Unit
	three, zero, unknown := polyOf(0, -1, 0, 1), polyOf(0), unitPoly(one, 0, 0, impl.MaxFix-1)
	for _, c := range []struct {
		p                 []impl.Interval
		x                 impl.Interval
		depth             int64
		certain, doubtful []impl.Interval
		code              int64
	}{
		{factors(1, -2), between(-11*one/4, 13*one/4), 4, []impl.Interval{between(-11*one/4, -5*one/4), between(one/4, 13*one/4)}, nil, impl.OK},
		{polyOf(-2, 0, 1), between(one, 2*one), 0, []impl.Interval{between(one, 2*one)}, nil, impl.OK},
		{polyOf(-2, 0, 1), between(one, 2*one), 60, []impl.Interval{between(one, 2*one)}, nil, impl.OK},
		{polyOf(-2, 0, 1), between(one, 2*one), -1, nil, nil, impl.ErrRange},
		{polyOf(-2, 0, 1), between(one, 2*one), 61, nil, nil, impl.ErrRange},
		{polyOf(-2, 0, 1), between(one, 2*one), math.MaxInt64, nil, nil, impl.ErrRange},
		{polyOf(-2, 0, 1), between(one, 2*one), math.MinInt64, nil, nil, impl.ErrRange},
		{polyOf(-2, 0, 1), between(2*one, one), 61, nil, nil, impl.ErrInvalid},
		{polyOf(-2, 0, 1), between(-2*one, 2*one), 0, nil, []impl.Interval{between(-2*one, 2*one)}, impl.OK},
		{polyOf(-2, 0, 1), between(-2*one, 2*one), 1, nil, []impl.Interval{between(-2*one, 0), between(0, 2*one)}, impl.OK}, // the derivative touches 0
		{polyOf(-2, 0, 1), between(-2*one, 2*one), 2, []impl.Interval{between(-2*one, -one), between(one, 2*one)}, nil, impl.OK},
		// No root.
		{polyOf(2, 0, 1), between(0, 9*one), 0, nil, nil, impl.OK},
		{polyOf(2, 0, 1), between(-9*one, 9*one), 20, nil, nil, impl.OK},
		{polyOf(7), between(-9*one, 9*one), 0, nil, nil, impl.OK},
		{polyOf(-7), exactly(0), 60, nil, nil, impl.OK},
		{polyOf(-1, 1), between(one+1, 2*one), 60, nil, nil, impl.OK},
		{polyOf(3, -2, 1), between(-5*one, 5*one), 1, nil, []impl.Interval{between(0, 5*one)}, impl.OK}, // not known to have none
		{polyOf(3, -2, 1), between(-5*one, 5*one), 60, nil, nil, impl.OK},
		// Roots at divisions are found on both sides.
		{three, between(-2*one, 2*one), 2, nil, cells(-2*one, one, 4), impl.OK},
		{three, between(-2*one, 2*one), 4, nil, []impl.Interval{
			between(-5*one/4, -one), between(-one, -3*one/4), between(-one/4, 0), between(0, one/4), between(3*one/4, one), between(one, 5*one/4),
		}, impl.OK},
		{three, between(-2*one, 3*one), 5, []impl.Interval{between(-2*one, -3*one/4), between(-one/8, one/2), between(13*one/16, 9*one/8)}, nil, impl.OK},
		// A root at an end.
		{polyOf(-1, 1), between(one, 2*one), 0, nil, []impl.Interval{between(one, 2*one)}, impl.OK},
		{polyOf(-1, 1), between(one, 2*one), 32, nil, []impl.Interval{between(one, one+1)}, impl.OK},
		{polyOf(-1, 1), between(one, 2*one), 60, nil, []impl.Interval{between(one, one+1)}, impl.OK},
		{polyOf(-1, 1), between(0, one), 60, nil, []impl.Interval{between(one-1, one)}, impl.OK},
		// Double roots are never certain.
		{factors(1, 1), between(0, 3*one), 0, nil, []impl.Interval{between(0, 3*one)}, impl.OK},
		{factors(1, 1), between(0, 2*one), 10, nil, []impl.Interval{between(one-one/512, one), between(one, one+one/512)}, impl.OK},
		{factors(1, 1), between(0, 3*one), 5, nil, cells(27*one/32, 3*one/32, 3), impl.OK},
		{factors(1, 1), between(0, 3*one), 60, nil, nil, impl.ErrFull},
		{factors(-2, 1, 1), between(-3*one, one/2), 60, []impl.Interval{between(-3*one, -5*one/4)}, nil, impl.OK},
		// Narrow intervals.
		{zero, exactly(5), 60, nil, []impl.Interval{exactly(5)}, impl.OK},
		{zero, between(5, 6), 60, nil, []impl.Interval{between(5, 6)}, impl.OK},
		{zero, between(5, 7), 0, nil, []impl.Interval{between(5, 7)}, impl.OK},
		{zero, between(5, 7), 1, nil, []impl.Interval{between(5, 6), between(6, 7)}, impl.OK},
		{zero, between(5, 7), 60, nil, []impl.Interval{between(5, 6), between(6, 7)}, impl.OK},
		{zero, between(-8, -5), 60, nil, cells(-8, 1, 3), impl.OK},
		{zero, between(-8, -5), 1, nil, []impl.Interval{between(-8, -7), between(-7, -5)}, impl.OK},
		{unitPoly(-1001, 2*one), between(500, 501), 0, []impl.Interval{between(500, 501)}, nil, impl.OK},
		// As many parts as there may be, and one more.
		{zero, between(0, 64), 60, nil, cells(0, 1, 64), impl.OK},
		{zero, between(0, 65), 60, nil, nil, impl.ErrFull},
		{zero, between(0, 64*one), 6, nil, cells(0, one, 64), impl.OK},
		{zero, between(0, 64*one), 7, nil, nil, impl.ErrFull},
		{zero, between(1-impl.MaxFix, impl.MaxFix-1), 60, nil, nil, impl.ErrFull},
		// The derivative is not known.
		{unknown, between(-one, -one/2), 0, nil, nil, impl.OK},
		{unknown, between(-one, 0), 0, nil, []impl.Interval{between(-one, 0)}, impl.OK},
		{unknown, between(-one, 0), 2, nil, []impl.Interval{between(-one/4, 0)}, impl.OK},
		{unknown, between(0, one/2), 0, nil, nil, impl.OK},
		{unknown, between(one, 2*one), 0, nil, []impl.Interval{between(one, 2*one)}, impl.OK},
	} {
		isRoots(t, c.p, c.x, c.depth, c.certain, c.doubtful, c.code)
	}
}

func TestBothListsTogetherHaveALimit(t *testing.T) {
	const one = impl.Unit
	full, more := 0, 0
	for size := int64(35000000); size < 37500000; size += 20000 {
		// A certain root, and doubtful ones around a double one.
		p := []impl.Interval{between(-size, size), impl.Integer(0), impl.Integer(3), impl.Integer(1)}
		want := wantPartition(p, between(-5*one, 2*one), 12)
		is(t, "the number of certain roots", len(want.certain), 1)
		if want.count() > 64 {
			isRoots(t, p, between(-5*one, 2*one), 12, nil, nil, impl.ErrFull)
		} else {
			isRoots(t, p, between(-5*one, 2*one), 12, want.certain, want.doubtful, impl.OK)
		}
		switch want.count() {
		case 64:
			full++
		case 65:
			more++
		}
	}
	if full == 0 || more == 0 {
		t.Errorf("there are %d times 64 and %d times 65 intervals", full, more)
	}
}

func TestRootsOfOtherListsAreInvalid(t *testing.T) {
	for _, depth := range stepNumbers {
		for _, p := range noPolynomials() {
			isRoots(t, p, between(-impl.Unit, impl.Unit), depth, nil, nil, impl.ErrInvalid)
			isRoots(t, p, exactly(0), depth, nil, nil, impl.ErrInvalid)
			isRoots(t, p, whole, depth, nil, nil, impl.ErrInvalid)
		}
		for _, x := range wholes() {
			isRoots(t, polyOf(0), x, depth, nil, nil, impl.ErrInvalid)
			isRoots(t, polyOf(-1, 1), x, depth, nil, nil, impl.ErrInvalid)
		}
	}
}
