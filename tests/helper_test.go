package tests

import (
	"math"
	"math/big"
	"math/rand/v2"
	"testing"

	"loop.example/g00880/impl"
)

// is compares a result of a named call with the one that is wanted.
func is[T comparable](t *testing.T, name string, got, want T) {
	t.Helper()
	if got != want {
		t.Errorf("%s: got %v, want %v", name, got, want)
	}
}

// numbers returns int64 near all places where arithmetic may go wrong, and
// some of all sizes between them, the same ones in each run.
func numbers() []int64 {
	list := []int64{
		math.MinInt64, math.MinInt64 + 1, math.MinInt64 + 2,
		math.MaxInt64, math.MaxInt64 - 1, math.MaxInt64 - 2,
		0, 1, 2, 3, 5, 7, 10, 24, 25, 26, -1, -2, -3, -7, -10,
		1 << 31, 1 << 32, 1 << 62, -1 << 31, -1 << 32, -1 << 62,
		1<<32 - 1, 1<<32 + 1, 1<<62 - 1, 1<<62 + 1, -1<<62 - 1,
		3037000499, 3037000500, // the roots of 2^63, rounded down and up
		999999999999999999, 1000000000000000000, 1000000000000000001,
		-999999999999999999, -1000000000000000000,
	}
	random := rand.New(rand.NewPCG(1, 2))
	for range 24 {
		list = append(list, int64(random.Uint64())>>random.IntN(64))
	}
	return list
}

// wides returns wide numbers near all places where arithmetic may go wrong,
// and some of all sizes between them, the same ones in each run.
func wides() []impl.Wide {
	his := []int64{
		math.MinInt64, math.MinInt64 + 1, -1 << 62, -6, -2, -1,
		0, 1, 2, 5, 9999999999999999999 >> 1, 1 << 62, math.MaxInt64 - 1, math.MaxInt64,
	}
	los := []uint64{0, 1, 2, 1<<32 - 1, 1<<63 - 1, 1 << 63, 1<<63 + 1, 10000000000000000000, math.MaxUint64 - 1, math.MaxUint64}
	var list []impl.Wide
	for _, hi := range his {
		for _, lo := range los {
			list = append(list, impl.Wide{Hi: hi, Lo: lo})
		}
	}
	random := rand.New(rand.NewPCG(3, 4))
	for range 40 {
		list = append(list, impl.Wide{Hi: int64(random.Uint64()) >> random.IntN(64), Lo: random.Uint64() >> random.IntN(64)})
	}
	return list
}

// bigOf returns the value of a wide number.
func bigOf(w impl.Wide) *big.Int {
	n := big.NewInt(w.Hi)
	n.Lsh(n, 64)
	return n.Add(n, new(big.Int).SetUint64(w.Lo))
}

// isWide reports whether a number is from -2^127 to 2^127 - 1.
func isWide(n *big.Int) bool {
	limit := new(big.Int).Lsh(big.NewInt(1), 127)
	return n.Cmp(limit) < 0 && n.Cmp(new(big.Int).Neg(limit)) >= 0
}

// floorOf returns n / d, rounded down, and the remainder, for a positive d.
// The division of package big is Euclidean, which is this for a positive d.
func floorOf(n, d *big.Int) (*big.Int, *big.Int) {
	return new(big.Int).DivMod(n, d, new(big.Int))
}

// power returns 2^n.
func power(n uint) *big.Int { return new(big.Int).Lsh(big.NewInt(1), n) }
