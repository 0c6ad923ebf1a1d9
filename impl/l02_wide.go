package impl

import (
	"math"
	"math/bits"
	"strconv"
	"strings"
)

// Wide is the integer Hi * 2^64 + Lo. It has no String method, so that a
// printed Wide shows its two fields.
type Wide struct {
	Hi int64
	Lo uint64
}

// maxShift is the greatest shift that a Wide has digits for.
const maxShift = 127

// maxMulShift is the greatest shift of a product of two int64.
const maxMulShift = 126

// groupDigits is the number of decimal digits that one uint64 certainly holds,
// and group is 10 to this power.
const (
	groupDigits = 19
	group       = 10000000000000000000
)

// WideOf returns a number as a wide one.
func WideOf(n int64) Wide { return Wide{Hi: n >> 63, Lo: uint64(n)} }

// WideInt returns a wide number as an int64.
func WideInt(w Wide) (int64, bool) {
	n := int64(w.Lo)
	if WideOf(n) != w {
		return 0, false
	}
	return n, true
}

// WideMul returns the product of two numbers.
func WideMul(a, b int64) Wide {
	hi, lo := bits.Mul64(uint64(a), uint64(b))
	// As an unsigned number, a negative factor is too great by 2^64.
	if a < 0 {
		hi -= uint64(b)
	}
	if b < 0 {
		hi -= uint64(a)
	}
	return Wide{Hi: int64(hi), Lo: lo}
}

// WideAdd returns the sum of two wide numbers.
func WideAdd(a, b Wide) (Wide, bool) {
	lo, carry := bits.Add64(a.Lo, b.Lo, 0)
	sum, _ := bits.Add64(uint64(a.Hi), uint64(b.Hi), carry)
	hi := int64(sum)
	// Only numbers of the same sign overflow, and the sign of their sum shows it.
	if (a.Hi < 0) == (b.Hi < 0) && (hi < 0) != (a.Hi < 0) {
		return Wide{}, false
	}
	return Wide{Hi: hi, Lo: lo}, true
}

// WideNeg returns the negative of a wide number.
func WideNeg(a Wide) (Wide, bool) {
	if a == (Wide{Hi: math.MinInt64}) {
		return Wide{}, false
	}
	return a.negative(), true
}

// negative returns the negative of w; the least Wide for itself.
func (w Wide) negative() Wide {
	lo, borrow := bits.Sub64(0, w.Lo, 0)
	hi, _ := bits.Sub64(0, uint64(w.Hi), borrow)
	return Wide{Hi: int64(hi), Lo: lo}
}

// complement returns -1 - w, which always is a Wide.
func (w Wide) complement() Wide { return Wide{Hi: ^w.Hi, Lo: ^w.Lo} }

// WideCompare compares two wide numbers.
func WideCompare(a, b Wide) int64 {
	switch {
	case a == b:
		return 0
	case a.Hi < b.Hi || a.Hi == b.Hi && a.Lo < b.Lo:
		return -1
	}
	return 1
}

// WideShift divides a wide number by a power of 2.
func WideShift(w Wide, n int64) Wide {
	switch {
	case n < 0 || n > maxShift:
		return Wide{}
	case n >= 64:
		return WideOf(w.Hi >> (n - 64))
	}
	return Wide{Hi: w.Hi >> n, Lo: uint64(w.Hi)<<(64-n) | w.Lo>>n}
}

// WideDiv divides a wide number.
func WideDiv(w Wide, d int64) (Wide, int64, bool) {
	if d <= 0 {
		return Wide{}, 0, false
	}
	if w.Hi < 0 {
		// The complement is not negative, and the complement of its quotient,
		// rounded down, is that of w, rounded down.
		q, r, _ := WideDiv(w.complement(), d)
		return q.complement(), d - 1 - r, true
	}
	q, r := magnitudeOf(w).divide(uint64(d))
	return Wide{Hi: int64(q.hi), Lo: q.lo}, int64(r), true
}

// WideSqrt returns the square root of a wide number.
func WideSqrt(w Wide) (uint64, bool) {
	if w.Hi < 0 {
		return 0, false
	}
	m := magnitudeOf(w)
	return greatest((m.length()+1)/2, m.holdsSquare), true
}

// greatest returns the greatest number with a number of binary digits that
// fits. Zero fits, and so does every number below one that fits.
func greatest(digits int, fits func(uint64) bool) uint64 {
	var n uint64
	for i := digits - 1; i >= 0; i-- {
		if next := n | 1<<i; fits(next) {
			n = next
		}
	}
	return n
}

// WideText returns the decimal form of a wide number.
func WideText(w Wide) string {
	digits := magnitudeOf(w).String()
	if w.Hi < 0 {
		return "-" + digits
	}
	return digits
}

// MulFloor returns a product, divided by a power of 2.
func MulFloor(a, b, shift int64) (int64, bool) {
	if shift < 0 || shift > maxMulShift {
		return 0, false
	}
	return WideInt(WideShift(WideMul(a, b), shift))
}

// MulDivFloor returns a product, divided by a number.
func MulDivFloor(a, b, d int64) (int64, bool) {
	q, _, ok := WideDiv(WideMul(a, b), d)
	if !ok {
		return 0, false
	}
	return WideInt(q)
}

// SqrtFloor returns the square root of a product.
func SqrtFloor(a, b int64) (int64, bool) {
	if a < 0 || b < 0 {
		return 0, false
	}
	// The root is not greater than the greater factor, and so is an int64.
	root, ok := WideSqrt(WideMul(a, b))
	return int64(root), ok
}

// magnitude is the number hi * 2^64 + lo without a sign. The absolute value of
// the least Wide is no Wide, but it is a magnitude.
type magnitude struct {
	hi uint64
	lo uint64
}

// magnitudeOf returns the absolute value of a wide number.
func magnitudeOf(w Wide) magnitude {
	if w.Hi < 0 {
		w = w.negative()
	}
	return magnitude{hi: uint64(w.Hi), lo: w.Lo}
}

// divide returns the quotient, rounded down, and the remainder for a positive d.
func (m magnitude) divide(d uint64) (magnitude, uint64) {
	lo, rest := bits.Div64(m.hi%d, m.lo, d)
	return magnitude{hi: m.hi / d, lo: lo}, rest
}

// length returns the number of binary digits; 0 for zero.
func (m magnitude) length() int {
	if m.hi != 0 {
		return 64 + bits.Len64(m.hi)
	}
	return bits.Len64(m.lo)
}

// holdsSquare reports whether the square of n is not greater than m.
func (m magnitude) holdsSquare(n uint64) bool {
	hi, lo := bits.Mul64(n, n)
	return hi < m.hi || hi == m.hi && lo <= m.lo
}

// String returns the decimal form.
func (m magnitude) String() string {
	if m.hi == 0 {
		return strconv.FormatUint(m.lo, 10)
	}
	q, rest := m.divide(group)
	last := strconv.FormatUint(rest, 10)
	return q.String() + strings.Repeat("0", groupDigits-len(last)) + last
}
