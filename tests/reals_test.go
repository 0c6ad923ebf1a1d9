package tests

import (
	"math"
	"math/big"
	"testing"

	"loop.example/g00880/impl"
)

// precision is the number of binary digits of real numbers, of which those
// behind the 32 of a fix are to decide on all roundings.
const precision = 240

// piDigits is pi with more digits than the precision has.
const piDigits = "3.14159265358979323846264338327950288419716939937510582097494459230781640628620899"

// lnTwoDigits is the logarithm of 2 with more digits than the precision has.
const lnTwoDigits = "0.693147180559945309417232121458176568075500134360255254120680009493393621969694715605863"

// realOf returns an integer as a real number.
func realOf(n int64) *big.Float { return new(big.Float).SetPrec(precision).SetInt64(n) }

// valueOf returns the value of a fix as a real number.
func valueOf(n int64) *big.Float { return over(realOf(n), realOf(impl.Unit)) }

func plus(x, y *big.Float) *big.Float  { return new(big.Float).Add(x, y) }
func minus(x, y *big.Float) *big.Float { return new(big.Float).Sub(x, y) }
func times(x, y *big.Float) *big.Float { return new(big.Float).Mul(x, y) }
func over(x, y *big.Float) *big.Float  { return new(big.Float).Quo(x, y) }

// readReal returns the real number with a decimal form.
func readReal(digits string) *big.Float {
	x, _, err := big.ParseFloat(digits, 10, precision, big.ToNearestEven)
	if err != nil {
		panic(err)
	}
	return x
}

// realPi returns pi.
func realPi() *big.Float { return readReal(piDigits) }

// realLnTwo returns the logarithm of 2.
func realLnTwo() *big.Float { return readReal(lnTwoDigits) }

// quarterTurns returns k quarter turns in radians.
func quarterTurns(k int64) *big.Float { return times(realPi(), over(realOf(k), realOf(2))) }

// sineAndCosine returns both functions of an angle that is not too great.
func sineAndCosine(x *big.Float) (*big.Float, *big.Float) {
	quarters, _ := over(x, quarterTurns(1)).Float64()
	k := int64(math.Round(quarters))
	rest := minus(x, quarterTurns(k))
	sine, cosine := taylor(rest, rest, 1), taylor(rest, realOf(1), 0)
	for range k & 3 {
		sine, cosine = cosine, times(realOf(-1), sine)
	}
	return sine, cosine
}

// taylor returns the sum of the terms of the sine or the cosine of at most an
// eighth turn from the first one, whose exponent is given, on.
func taylor(x, first *big.Float, exponent int64) *big.Float {
	square := times(times(realOf(-1), x), x)
	sum, term := first, first
	for i := exponent + 1; i < exponent+54; i += 2 {
		term = over(times(term, square), realOf(i*(i+1)))
		sum = plus(sum, term)
	}
	return sum
}

// arcTangentOf returns the arc tangent of 1 / n for an n of at least 2.
func arcTangentOf(n int64) *big.Float {
	power := over(realOf(1), realOf(n))
	sum := realOf(0)
	for k := int64(0); k < precision/2+10; k++ {
		sum = plus(sum, over(power, realOf((1-k%2*2)*(2*k+1))))
		power = over(power, realOf(n*n))
	}
	return sum
}

// halfTangent returns the tangent of half the angle with the tangent x.
func halfTangent(x *big.Float) *big.Float {
	root := plus(realOf(1), times(x, x))
	return over(x, plus(realOf(1), root.Sqrt(root)))
}

// arcTangent returns the arc tangent of a real number.
func arcTangent(x *big.Float) *big.Float {
	const halvings = 12
	for range halvings {
		x = halfTangent(x)
	}
	square := times(realOf(-1), times(x, x))
	sum, power := realOf(0), x
	for odd := int64(1); odd < 25; odd += 2 {
		sum = plus(sum, over(power, realOf(odd)))
		power = times(power, square)
	}
	return times(sum, realOf(1<<halvings))
}

// arcSine returns the arc sine of a real number from -1 to 1.
func arcSine(x *big.Float) *big.Float {
	square := minus(realOf(1), times(x, x))
	return directionOf(x, square.Sqrt(square))
}

// directionOf returns the angle of a point other than 0, 0 from the positive x
// axis, greater than -pi and at most pi.
func directionOf(y, x *big.Float) *big.Float {
	if x.Sign() > 0 {
		return arcTangent(over(y, x))
	}
	// From 90 degrees farther on the right, or on the left, this is an angle
	// of less than 90 degrees, or of 90 degrees.
	switch y.Sign() {
	case 1:
		return plus(quarterTurns(1), arcTangent(over(times(realOf(-1), x), y)))
	case -1:
		return minus(arcTangent(over(x, times(realOf(-1), y))), quarterTurns(1))
	}
	return quarterTurns(2)
}

// exponentialOf returns the exponential of a real number.
func exponentialOf(x *big.Float) *big.Float {
	twos, _ := over(x, realLnTwo()).Float64()
	k := int64(math.Round(twos))
	rest := minus(x, times(realOf(k), realLnTwo()))
	sum, term := realOf(1), realOf(1)
	for i := int64(1); i < 55; i++ {
		term = over(times(term, rest), realOf(i))
		sum = plus(sum, term)
	}
	return sum.SetMantExp(sum, int(k))
}

// logarithmOf returns the logarithm of a positive real number.
func logarithmOf(x *big.Float) *big.Float {
	part := new(big.Float)
	twos := int64(x.MantExp(part))
	z := over(minus(part, realOf(1)), plus(part, realOf(1)))
	sum, power := realOf(0), z
	for odd := int64(1); odd < 165; odd += 2 {
		sum = plus(sum, over(power, realOf(odd)))
		power = times(power, times(z, z))
	}
	return plus(times(realOf(twos), realLnTwo()), plus(sum, sum))
}

// hyperbolicSineAndCosine returns both functions of a real number.
func hyperbolicSineAndCosine(x *big.Float) (*big.Float, *big.Float) {
	up, down := exponentialOf(x), exponentialOf(times(realOf(-1), x))
	return over(minus(up, down), realOf(2)), over(plus(up, down), realOf(2))
}

// hyperbolicTangent returns the hyperbolic tangent of a real number.
func hyperbolicTangent(x *big.Float) *big.Float {
	sine, cosine := hyperbolicSineAndCosine(x)
	return over(sine, cosine)
}

// inverseHyperbolicSine returns the number with a hyperbolic sine.
func inverseHyperbolicSine(x *big.Float) *big.Float {
	if x.Sign() < 0 {
		return times(realOf(-1), inverseHyperbolicSine(times(realOf(-1), x)))
	}
	root := plus(times(x, x), realOf(1))
	return logarithmOf(plus(x, root.Sqrt(root)))
}

// inverseHyperbolicTangent returns the number with a hyperbolic tangent.
func inverseHyperbolicTangent(x *big.Float) *big.Float {
	return over(logarithmOf(over(plus(realOf(1), x), minus(realOf(1), x))), realOf(2))
}

// inUnits returns a real number in units of 2^-32.
func inUnits(x *big.Float) *big.Rat {
	r, _ := times(x, realOf(impl.Unit)).Rat(nil)
	return r
}

// contains requires that an interval contains a real number.
func contains(t *testing.T, name string, a impl.Interval, x *big.Float) {
	t.Helper()
	if !isIn(inUnits(x), a) {
		t.Errorf("%s: %v does not contain %s units", name, a, inUnits(x).FloatString(9))
	}
}

// isNarrow requires that an interval is bounded and not wider than a limit.
func isNarrow(t *testing.T, name string, a impl.Interval, limit int64) {
	t.Helper()
	if width := impl.WidthI(a); width < 0 || width > limit {
		t.Errorf("%s: %v has the width %d, which should be 0 to %d", name, a, width, limit)
	}
}

// isAlmost requires that two real numbers are equal, but for the last digits.
func isAlmost(t *testing.T, name string, x, y *big.Float) {
	t.Helper()
	limit := 40 - precision + max(0, y.MantExp(nil))
	if difference := minus(x, y); difference.MantExp(nil) > limit && difference.Sign() != 0 {
		t.Errorf("%s: %s and %s", name, x.Text('g', 70), y.Text('g', 70))
	}
}

func TestRealNumbersFitTogether(t *testing.T) {
	almost := func(name string, x, y *big.Float) {
		t.Helper()
		isAlmost(t, name, x, y)
	}
	machin := minus(times(realOf(16), arcTangentOf(5)), times(realOf(4), arcTangentOf(239)))
	almost("the formula of Machin", machin, realPi())
	sine, cosine := sineAndCosine(times(realPi(), over(realOf(-1), realOf(6))))
	almost("the sine of -30 degrees", sine, over(realOf(-1), realOf(2)))
	almost("the square of the cosine of -30 degrees", times(cosine, cosine), over(realOf(3), realOf(4)))
	sine, cosine = sineAndCosine(times(realPi(), over(realOf(7*6+4), realOf(6))))
	almost("the cosine of 7 half turns and 120 degrees", cosine, over(realOf(1), realOf(2)))
	almost("the square of the sine of 7 half turns and 120 degrees", times(sine, sine), over(realOf(3), realOf(4)))
	is(t, "the sign of the sine of 7 half turns and 120 degrees", sine.Sign(), -1)
	almost("the arc tangent of 1/7", arcTangent(over(realOf(1), realOf(7))), arcTangentOf(7))
	almost("the arc tangent of 3", arcTangent(realOf(3)), minus(quarterTurns(1), arcTangentOf(3)))
	almost("the arc sine of -1/2", arcSine(over(realOf(-1), realOf(2))), over(realPi(), realOf(-6)))
	almost("the arc sine of 1", arcSine(realOf(1)), quarterTurns(1))
	almost("the direction of -1, 0", directionOf(realOf(0), realOf(-1)), realPi())
	almost("the direction of -1, -1", directionOf(realOf(-1), realOf(-1)), times(realPi(), over(realOf(-3), realOf(4))))
	almost("the direction of -2, 1", directionOf(realOf(1), realOf(-2)), plus(quarterTurns(1), arcTangent(realOf(2))))
	almost("the direction of 0, -5", directionOf(realOf(-5), realOf(0)), quarterTurns(-1))
}

func TestRealExponentialsFitTogether(t *testing.T) {
	almost := func(name string, x, y *big.Float) {
		t.Helper()
		isAlmost(t, name, x, y)
	}
	negative := func(x *big.Float) *big.Float { return times(realOf(-1), x) }
	third, seven := over(realOf(1), realOf(3)), realOf(7)
	cotangent := func(n int64) *big.Float { return inverseHyperbolicTangent(over(realOf(1), realOf(n))) }
	sum := minus(times(realOf(18), cotangent(26)), times(realOf(2), cotangent(4801)))
	almost("a formula for the logarithm of 2", plus(sum, times(realOf(8), cotangent(8749))), realLnTwo())
	almost("the exponential of the logarithm of 2", exponentialOf(realLnTwo()), realOf(2))
	almost("the exponential of 7 and of -7", times(exponentialOf(seven), exponentialOf(negative(seven))), realOf(1))
	almost("the exponential of 3 times 1/3", exponentialOf(realOf(1)), times(exponentialOf(third), times(exponentialOf(third), exponentialOf(third))))
	almost("the logarithm of 6", logarithmOf(realOf(6)), plus(realLnTwo(), logarithmOf(realOf(3))))
	almost("the logarithm of 1/3", logarithmOf(third), negative(logarithmOf(realOf(3))))
	almost("the logarithm of the exponential of 7", logarithmOf(exponentialOf(seven)), seven)
	almost("the exponential of the logarithm of 1/3", exponentialOf(logarithmOf(third)), third)
	sine, cosine := hyperbolicSineAndCosine(third)
	almost("the hyperbola at 1/3", minus(times(cosine, cosine), times(sine, sine)), realOf(1))
	almost("the inverse hyperbolic sine", inverseHyperbolicSine(negative(sine)), negative(third))
	almost("the inverse hyperbolic tangent", inverseHyperbolicTangent(hyperbolicTangent(negative(third))), negative(third))
}
