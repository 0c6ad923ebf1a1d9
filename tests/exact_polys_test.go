package tests

import (
	"math/big"
	"testing"

	"loop.example/g00880/impl"
)

// exactPoly is a polynomial with exact coefficients, the constant one first,
// of which the last one is not 0. The polynomial 0 has none.
type exactPoly []*big.Rat

// ratOf returns the value of a fix.
func ratOf(n int64) *big.Rat { return new(big.Rat).SetFrac(big.NewInt(n), power(32)) }

// exactPolyOf returns the polynomial with the values of fixes as coefficients.
func exactPolyOf(list ...int64) exactPoly {
	var p exactPoly
	for _, n := range list {
		p = append(p, ratOf(n))
	}
	return p.trimmed()
}

// trimmed returns the polynomial without coefficients 0 at its end.
func (p exactPoly) trimmed() exactPoly {
	for len(p) > 0 && p[len(p)-1].Sign() == 0 {
		p = p[:len(p)-1]
	}
	return p
}

// at returns the value at a number.
func (p exactPoly) at(x *big.Rat) *big.Rat {
	value, factor := new(big.Rat), big.NewRat(1, 1)
	for _, c := range p {
		value.Add(value, new(big.Rat).Mul(c, factor))
		factor = new(big.Rat).Mul(factor, x)
	}
	return value
}

// derivative returns the derivative.
func (p exactPoly) derivative() exactPoly {
	var d exactPoly
	for k := 1; k < len(p); k++ {
		d = append(d, new(big.Rat).Mul(p[k], big.NewRat(int64(k), 1)))
	}
	return d.trimmed()
}

// divided returns quotient and remainder of two polynomials.
func (p exactPoly) divided(q exactPoly) (exactPoly, exactPoly) {
	rest := append(exactPoly{}, p...)
	quotient := make(exactPoly, max(0, len(p)-len(q)+1))
	for k := len(quotient) - 1; k >= 0; k-- {
		factor := new(big.Rat).Quo(rest[k+len(q)-1], q[len(q)-1])
		quotient[k] = factor
		for i, c := range q {
			rest[k+i] = new(big.Rat).Sub(rest[k+i], new(big.Rat).Mul(factor, c))
		}
	}
	return quotient, rest.trimmed()
}

// signed returns a multiple of a polynomial with the leading coefficient 1 or
// -1, by a factor of the sign.
func (p exactPoly) signed(sign int64) exactPoly {
	if len(p) == 0 {
		return p
	}
	factor := new(big.Rat).Quo(big.NewRat(sign, 1), new(big.Rat).Abs(p[len(p)-1]))
	var q exactPoly
	for _, c := range p {
		q = append(q, new(big.Rat).Mul(c, factor))
	}
	return q
}

// integers returns a positive multiple of a polynomial with integers as
// coefficients, which has the same signs.
func (p exactPoly) integers() []*big.Int {
	factor := big.NewInt(1)
	for _, c := range p {
		factor.Mul(factor, new(big.Int).Quo(c.Denom(), new(big.Int).GCD(nil, nil, factor, c.Denom())))
	}
	var list []*big.Int
	for _, c := range p {
		list = append(list, new(big.Int).Mul(c.Num(), new(big.Int).Quo(factor, c.Denom())))
	}
	return list
}

// signAt returns the sign of a polynomial with integers as coefficients at the
// value of a fix.
func signAt(p []*big.Int, n int64) int {
	value, x := new(big.Int), big.NewInt(n)
	for k := len(p) - 1; k >= 0; k-- {
		// The value so far is multiplied by 2^32 for each coefficient.
		value.Mul(value, x)
		value.Add(value, new(big.Int).Lsh(p[k], uint(32*(len(p)-1-k))))
	}
	return value.Sign()
}

// chain is Sturm's chain of a polynomial that is not 0, divided by its last
// member, so that also ends which are multiple roots may be taken.
type chain [][]*big.Int

// chainOf returns the chain of a polynomial.
func chainOf(p exactPoly) chain {
	list := []exactPoly{p}
	for next := p.derivative(); len(next) > 0; {
		list = append(list, next)
		_, rest := list[len(list)-2].divided(next)
		next = rest.signed(-1)
	}
	var c chain
	for _, member := range list {
		quotient, _ := member.divided(list[len(list)-1])
		c = append(c, quotient.integers())
	}
	return c
}

// changes returns the number of changes of sign at the value of a fix.
func (c chain) changes(n int64) int {
	count, before := 0, 0
	for _, p := range c {
		sign := signAt(p, n)
		if sign*before < 0 {
			count++
		}
		if sign != 0 {
			before = sign
		}
	}
	return count
}

// isRoot reports whether a fix is a root.
func (c chain) isRoot(n int64) bool { return signAt(c[0], n) == 0 }

// inClosed returns the number of different roots from lo to hi.
func (c chain) inClosed(lo, hi int64) int {
	count := c.changes(lo) - c.changes(hi)
	if c.isRoot(lo) {
		count++
	}
	return count
}

// inOpen returns the number of different roots between lo and hi.
func (c chain) inOpen(lo, hi int64) int {
	if lo >= hi {
		return 0
	}
	count := c.changes(lo) - c.changes(hi)
	if c.isRoot(hi) {
		count--
	}
	return count
}

func TestRootsAreCounted(t *testing.T) {
	const one = impl.Unit
	for _, c := range []struct {
		list         []int64
		lo, hi       int64
		closed, open int
	}{
		{[]int64{-2 * one, 0, one}, one, 2 * one, 1, 1},               // x^2 - 2
		{[]int64{-2 * one, 0, one}, -2 * one, 2 * one, 2, 2},          //
		{[]int64{-2 * one, 0, one}, -one, one, 0, 0},                  //
		{[]int64{2 * one, 0, one}, -9 * one, 9 * one, 0, 0},           // x^2 + 2
		{[]int64{one}, -one, one, 0, 0},                               // 1
		{[]int64{-one, one, 0}, one, 2 * one, 1, 0},                   // x - 1
		{[]int64{-one, one, 0}, 0, one, 1, 0},                         //
		{[]int64{one, -2 * one, one}, 0, 2 * one, 1, 1},               // (x - 1)^2
		{[]int64{one, -2 * one, one}, one, 2 * one, 1, 0},             //
		{[]int64{one, -2 * one, one}, one, one, 1, 0},                 //
		{[]int64{0, 0, 2 * one, 3 * one, one}, -2 * one, 0, 3, 1},     // x^2 (x + 1) (x + 2)
		{[]int64{0, -one, 0, 0, 0, one}, -one, one, 3, 1},             // x^5 - x
		{[]int64{0, -6 * one, 11 * one, -6 * one, one}, 0, one, 2, 0}, // x (x - 1) (x - 2) (x - 3)
		{[]int64{0, -6 * one, 11 * one, -6 * one, one}, one / 2, 7 * one / 2, 3, 3},
	} {
		chain := chainOf(exactPolyOf(c.list...))
		is(t, "the number of roots", chain.inClosed(c.lo, c.hi), c.closed)
		is(t, "the number of roots between the ends", chain.inOpen(c.lo, c.hi), c.open)
	}
}
