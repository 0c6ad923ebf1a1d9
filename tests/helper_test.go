package tests

import (
	"math"
	"math/big"
	"math/rand/v2"
	"testing"

	"loop.example/g00880/impl"
)

// is compares a result of a named call with the one that is wanted.
func is[T comparable](t *testing.T, name string, got, want T) {
	t.Helper()
	if got != want {
		t.Errorf("%s: got %v, want %v", name, got, want)
	}
}

// numbers returns int64 near all places where arithmetic may go wrong, and
// some of all sizes between them, the same ones in each run.
func numbers() []int64 {
	list := []int64{
		math.MinInt64, math.MinInt64 + 1, math.MinInt64 + 2,
		math.MaxInt64, math.MaxInt64 - 1, math.MaxInt64 - 2,
		0, 1, 2, 3, 5, 7, 10, 24, 25, 26, -1, -2, -3, -7, -10,
		1 << 31, 1 << 32, 1 << 62, -1 << 31, -1 << 32, -1 << 62,
		1<<32 - 1, 1<<32 + 1, 1<<62 - 1, 1<<62 + 1, -1<<62 - 1,
		3037000499, 3037000500, // the roots of 2^63, rounded down and up
		999999999999999999, 1000000000000000000, 1000000000000000001,
		-999999999999999999, -1000000000000000000,
	}
	random := rand.New(rand.NewPCG(1, 2))
	for range 24 {
		list = append(list, int64(random.Uint64())>>random.IntN(64))
	}
	return list
}

// wides returns wide numbers near all places where arithmetic may go wrong,
// and some of all sizes between them, the same ones in each run.
func wides() []impl.Wide {
	his := []int64{
		math.MinInt64, math.MinInt64 + 1, -1 << 62, -6, -2, -1,
		0, 1, 2, 5, 9999999999999999999 >> 1, 1 << 62, math.MaxInt64 - 1, math.MaxInt64,
	}
	los := []uint64{0, 1, 2, 1<<32 - 1, 1<<63 - 1, 1 << 63, 1<<63 + 1, 10000000000000000000, math.MaxUint64 - 1, math.MaxUint64}
	var list []impl.Wide
	for _, hi := range his {
		for _, lo := range los {
			list = append(list, impl.Wide{Hi: hi, Lo: lo})
		}
	}
	random := rand.New(rand.NewPCG(3, 4))
	for range 40 {
		list = append(list, impl.Wide{Hi: int64(random.Uint64()) >> random.IntN(64), Lo: random.Uint64() >> random.IntN(64)})
	}
	return list
}

// bigOf returns the value of a wide number.
func bigOf(w impl.Wide) *big.Int {
	n := big.NewInt(w.Hi)
	n.Lsh(n, 64)
	return n.Add(n, new(big.Int).SetUint64(w.Lo))
}

// isWide reports whether a number is from -2^127 to 2^127 - 1.
func isWide(n *big.Int) bool {
	limit := new(big.Int).Lsh(big.NewInt(1), 127)
	return n.Cmp(limit) < 0 && n.Cmp(new(big.Int).Neg(limit)) >= 0
}

// floorOf returns n / d, rounded down, and the remainder, for a positive d.
// The division of package big is Euclidean, which is this for a positive d.
func floorOf(n, d *big.Int) (*big.Int, *big.Int) {
	return new(big.Int).DivMod(n, d, new(big.Int))
}

// ceilingOf returns n / d, rounded up, for a positive d.
func ceilingOf(n, d *big.Int) *big.Int {
	q, _ := floorOf(new(big.Int).Neg(n), d)
	return q.Neg(q)
}

// power returns 2^n.
func power(n uint) *big.Int { return new(big.Int).Lsh(big.NewInt(1), n) }

// fixes returns fixes near all places where rounding may go wrong, numbers just
// beyond the fixes, and some of all sizes, the same ones in each run.
func fixes() []int64 {
	list := []int64{
		0, 1, 2, 3, 5, 7, 1000,
		impl.Unit - 1, impl.Unit, impl.Unit + 1, impl.Unit / 2, 3 * impl.Unit, 10 * impl.Unit,
		1<<46 - 1, 1 << 46, 1<<46 + 1, // 2^46 is the fix with the square MaxFix
		1<<46 + 1<<23, 1<<46 - 1<<23 + 1, // the product is MaxFix and a part of a unit
		1<<60 - 1<<28, 1<<60 - 1<<28 + 1, // by Unit - 1: MaxFix, and just beyond it
		1 << 59, 1<<59 + 1,
		impl.MaxFix - 2, impl.MaxFix - 1, impl.MaxFix, impl.MaxFix + 1, impl.MaxFix + 2,
		1 << 61, 1 << 62, math.MaxInt64 - 1, math.MaxInt64,
	}
	random := rand.New(rand.NewPCG(5, 6))
	for range 16 {
		list = append(list, int64(random.Uint64())>>(3+random.IntN(58)))
	}
	for _, n := range list {
		list = append(list, -n)
	}
	return append(list, math.MinInt64)
}

// isFix reports whether a number is from -2^60 to 2^60.
func isFix(n *big.Int) bool { return new(big.Int).Abs(n).Cmp(power(60)) <= 0 }

// inFixes reports whether all numbers of a list are fixes.
func inFixes(list ...int64) bool {
	for _, n := range list {
		if !isFix(big.NewInt(n)) {
			return false
		}
	}
	return true
}

// wholes returns whole intervals of every form.
func wholes() []impl.Interval {
	const most, least, limit = math.MaxInt64, math.MinInt64, impl.MaxFix
	return []impl.Interval{
		{Lo: -limit, Hi: limit},                                // the one that is returned
		{Lo: 1, Hi: 0}, {Lo: 7, Hi: -7}, {Lo: most, Hi: least}, // Lo is greater than Hi
		{Lo: 0, Hi: limit}, {Lo: -limit, Hi: 0}, {Lo: limit, Hi: limit}, {Lo: -limit, Hi: -limit},
		{Lo: 5, Hi: limit + 1}, {Lo: -limit - 1, Hi: 5}, {Lo: limit + 1, Hi: limit + 2}, {Lo: -limit - 2, Hi: -limit - 1},
		{Lo: 0, Hi: most}, {Lo: least, Hi: 0}, {Lo: least, Hi: most}, {Lo: least, Hi: least}, {Lo: most, Hi: most},
		{Lo: least, Hi: -1}, {Lo: 1, Hi: most},
	}
}

// boundedIntervals returns intervals that contain 0, end at 0, consist of one
// number, have odd ends and ends near MaxFix, and some of all sizes, the same
// ones in each run.
func boundedIntervals() []impl.Interval {
	ends := []int64{
		-impl.MaxFix + 1, -1 << 59, -1<<46 - 1, -3 * impl.Unit, -impl.Unit, -3, -1,
		0, 1, 2, impl.Unit - 1, 5 * impl.Unit, 1 << 46, 1<<59 + 1, impl.MaxFix - 1,
	}
	var list []impl.Interval
	for i, lo := range ends {
		for _, hi := range ends[i:] {
			list = append(list, impl.Interval{Lo: lo, Hi: hi})
		}
	}
	random := rand.New(rand.NewPCG(7, 8))
	for range 30 {
		lo, size := int64(random.Uint64())>>(5+random.IntN(56)), random.Int64()>>(5+random.IntN(56))
		list = append(list, impl.Interval{Lo: lo, Hi: lo + size})
	}
	return list
}
