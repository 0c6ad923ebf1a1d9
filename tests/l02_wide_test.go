package tests

import (
	"math"
	"math/big"
	"strconv"
	"testing"

	"loop.example/g00880/impl"
)

// isBig compares a wide number with the value that is wanted.
func isBig(t *testing.T, name string, got impl.Wide, want *big.Int) {
	t.Helper()
	if bigOf(got).Cmp(want) != 0 {
		t.Errorf("%s: got %s, want %s", name, bigOf(got), want)
	}
}

// isWideOrNone compares a wide number with the value that is wanted, or with
// no value if there is none.
func isWideOrNone(t *testing.T, name string, got impl.Wide, ok bool, want *big.Int) {
	t.Helper()
	is(t, name+" ok", ok, isWide(want))
	if isWide(want) {
		isBig(t, name, got, want)
	} else {
		is(t, name, got, impl.Wide{})
	}
}

// isIntOrNone compares an int64 with the value that is wanted, or with no
// value if there is none.
func isIntOrNone(t *testing.T, name string, got int64, ok bool, want *big.Int) {
	t.Helper()
	is(t, name+" ok", ok, want.IsInt64())
	if want.IsInt64() {
		is(t, name, got, want.Int64())
	} else {
		is(t, name, got, 0)
	}
}

var (
	leastWide    = impl.Wide{Hi: math.MinInt64}
	greatestWide = impl.Wide{Hi: math.MaxInt64, Lo: math.MaxUint64}
)

func TestWideOfAndWideInt(t *testing.T) {
	for _, n := range numbers() {
		w := impl.WideOf(n)
		isBig(t, "WideOf", w, big.NewInt(n))
		got, ok := impl.WideInt(w)
		isIntOrNone(t, "WideInt of WideOf", got, ok, big.NewInt(n))
	}
	for _, w := range wides() {
		got, ok := impl.WideInt(w)
		isIntOrNone(t, "WideInt", got, ok, bigOf(w))
	}
}

func TestProductsAreExact(t *testing.T) {
	for _, a := range numbers() {
		for _, b := range numbers() {
			isBig(t, "WideMul", impl.WideMul(a, b), new(big.Int).Mul(big.NewInt(a), big.NewInt(b)))
		}
	}
	example := impl.WideMul(math.MaxInt64, math.MaxInt64)
	is(t, "the example", example, impl.Wide{Hi: 4611686018427387903, Lo: 1})
	is(t, "the example", impl.WideText(example), "85070591730234615847396907784232501249")
}

func TestSumsAndComparisonsAreExact(t *testing.T) {
	for _, a := range wides() {
		for _, b := range wides() {
			sum, ok := impl.WideAdd(a, b)
			isWideOrNone(t, "WideAdd", sum, ok, new(big.Int).Add(bigOf(a), bigOf(b)))
			is(t, "WideCompare", impl.WideCompare(a, b), int64(bigOf(a).Cmp(bigOf(b))))
		}
	}
}

func TestNegativesAreExact(t *testing.T) {
	for _, a := range wides() {
		got, ok := impl.WideNeg(a)
		isWideOrNone(t, "WideNeg", got, ok, new(big.Int).Neg(bigOf(a)))
	}
	_, ok := impl.WideNeg(leastWide)
	is(t, "WideNeg of the least Wide", ok, false)
	got, ok := impl.WideNeg(greatestWide)
	is(t, "WideNeg of the greatest Wide", got, impl.Wide{Hi: math.MinInt64, Lo: 1})
	is(t, "WideNeg of the greatest Wide", ok, true)
}

func TestShiftsAreRoundedDown(t *testing.T) {
	for _, w := range wides() {
		for n := range uint(128) {
			want, _ := floorOf(bigOf(w), power(n))
			isBig(t, "WideShift by "+strconv.Itoa(int(n)), impl.WideShift(w, int64(n)), want)
		}
		for _, n := range []int64{-1, -64, -127, 128, 129, 191, 192, 255, 256, 1 << 32, math.MinInt64, math.MaxInt64} {
			is(t, "WideShift by "+strconv.Itoa(int(n)), impl.WideShift(w, n), impl.Wide{})
		}
	}
	is(t, "the least Wide by 127", impl.WideShift(leastWide, 127), impl.WideOf(-1))
	is(t, "the greatest Wide by 126", impl.WideShift(greatestWide, 126), impl.WideOf(1))
	is(t, "the greatest Wide by 127", impl.WideShift(greatestWide, 127), impl.Wide{})
}

func TestQuotientsAreRoundedDown(t *testing.T) {
	for _, w := range wides() {
		for _, d := range numbers() {
			q, r, ok := impl.WideDiv(w, d)
			is(t, "WideDiv ok", ok, d > 0)
			if d <= 0 {
				is(t, "WideDiv by "+impl.Decimal(d), q, impl.Wide{})
				is(t, "the remainder by "+impl.Decimal(d), r, 0)
				continue
			}
			wantQ, wantR := floorOf(bigOf(w), big.NewInt(d))
			isBig(t, "WideDiv by "+impl.Decimal(d), q, wantQ)
			is(t, "the remainder by "+impl.Decimal(d), r, wantR.Int64())
		}
	}
}

func TestRootsAreRoundedDown(t *testing.T) {
	list := wides()
	for _, n := range numbers() {
		square := impl.WideMul(n, n)
		before, _ := impl.WideAdd(square, impl.WideOf(-1))
		after, _ := impl.WideAdd(square, impl.WideOf(1))
		list = append(list, before, square, after)
	}
	for _, w := range list {
		root, ok := impl.WideSqrt(w)
		is(t, "WideSqrt ok", ok, w.Hi >= 0)
		want := uint64(0)
		if w.Hi >= 0 {
			want = new(big.Int).Sqrt(bigOf(w)).Uint64()
		}
		is(t, "WideSqrt of "+bigOf(w).String(), root, want)
	}
	root, _ := impl.WideSqrt(greatestWide)
	is(t, "the root of the greatest Wide", root, 13043817825332782212)
}

func TestTextsAreDecimal(t *testing.T) {
	list := wides()
	ten := impl.WideOf(1)
	for range 38 {
		// The powers of 10, their neighbours and negatives have zeros at all places.
		before, _ := impl.WideAdd(ten, impl.WideOf(-1))
		negative, _ := impl.WideNeg(ten)
		list = append(list, before, ten, negative)
		ten = timesTen(ten)
	}
	for _, w := range list {
		is(t, "WideText", impl.WideText(w), bigOf(w).String())
	}
	is(t, "zero", impl.WideText(impl.Wide{}), "0")
	is(t, "the least Wide", impl.WideText(leastWide), "-170141183460469231731687303715884105728")
	is(t, "the greatest Wide", impl.WideText(greatestWide), "170141183460469231731687303715884105727")
}

// timesTen returns the sum of ten equal numbers.
func timesTen(w impl.Wide) impl.Wide {
	sum := impl.Wide{}
	for range 10 {
		sum, _ = impl.WideAdd(sum, w)
	}
	return sum
}

func TestMulFloor(t *testing.T) {
	for _, a := range numbers() {
		for _, b := range numbers() {
			product := new(big.Int).Mul(big.NewInt(a), big.NewInt(b))
			for _, shift := range []uint{0, 1, 31, 32, 33, 61, 62, 63, 64, 65, 100, 125, 126} {
				want, _ := floorOf(product, power(shift))
				got, ok := impl.MulFloor(a, b, int64(shift))
				isIntOrNone(t, "MulFloor by "+strconv.Itoa(int(shift)), got, ok, want)
			}
			for _, shift := range []int64{-1, 127, 128, 192, 1 << 32, math.MinInt64, math.MaxInt64} {
				got, ok := impl.MulFloor(a, b, shift)
				is(t, "MulFloor by "+impl.Decimal(shift), got, 0)
				is(t, "MulFloor ok by "+impl.Decimal(shift), ok, false)
			}
		}
	}
	got, ok := impl.MulFloor(math.MinInt64, math.MinInt64, 126)
	is(t, "the greatest product by 126", got, 1)
	is(t, "the greatest product by 126", ok, true)
}

func TestMulDivFloor(t *testing.T) {
	for _, a := range numbers() {
		for _, b := range numbers() {
			product := new(big.Int).Mul(big.NewInt(a), big.NewInt(b))
			for _, d := range numbers() {
				got, ok := impl.MulDivFloor(a, b, d)
				if d <= 0 {
					is(t, "MulDivFloor by "+impl.Decimal(d), got, 0)
					is(t, "MulDivFloor ok by "+impl.Decimal(d), ok, false)
					continue
				}
				want, _ := floorOf(product, big.NewInt(d))
				isIntOrNone(t, "MulDivFloor by "+impl.Decimal(d), got, ok, want)
			}
		}
	}
}

func TestSqrtFloor(t *testing.T) {
	for _, a := range numbers() {
		for _, b := range numbers() {
			got, ok := impl.SqrtFloor(a, b)
			is(t, "SqrtFloor ok", ok, a >= 0 && b >= 0)
			want := int64(0)
			if a >= 0 && b >= 0 {
				product := new(big.Int).Mul(big.NewInt(a), big.NewInt(b))
				want = new(big.Int).Sqrt(product).Int64()
			}
			is(t, "SqrtFloor", got, want)
		}
	}
	got, _ := impl.SqrtFloor(math.MaxInt64, math.MaxInt64)
	is(t, "the greatest root", got, math.MaxInt64)
	_, ok := impl.SqrtFloor(-1, -1)
	is(t, "two negative numbers", ok, false)
	_, ok = impl.SqrtFloor(0, -1)
	is(t, "zero and a negative number", ok, false)
}
