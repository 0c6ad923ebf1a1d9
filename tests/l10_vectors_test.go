package tests

import (
	"fmt"
	"math/big"
	"math/rand/v2"
	"testing"

	"loop.example/g00880/impl"
)

// vector returns the vector with integers as components.
func vector(x, y, z int64) impl.Vec {
	return impl.Vec{X: impl.Integer(x), Y: impl.Integer(y), Z: impl.Integer(z)}
}

// fixVector returns the vector with fixes as components.
func fixVector(x, y, z int64) impl.Vec {
	return impl.Vec{X: exactly(x), Y: exactly(y), Z: exactly(z)}
}

// componentsOf returns the components of a vector.
func componentsOf(a impl.Vec) []impl.Interval { return []impl.Interval{a.X, a.Y, a.Z} }

// vectorOf returns the vector with some components.
func vectorOf(list []impl.Interval) impl.Vec { return impl.Vec{X: list[0], Y: list[1], Z: list[2]} }

// smallVectors returns vectors of which all products are known.
func smallVectors() []impl.Vec {
	const one = impl.Unit
	list := []impl.Vec{
		{}, vector(1, 0, 0), vector(0, 1, 0), vector(0, 0, 1), vector(3, 4, 12), vector(1, 0, -2), vector(1, 2, 3), vector(-1, -1, -1), vector(20, -30, 60),
		fixVector(1, -1, 2), fixVector(one-1, one, one+1), fixVector(one/3, -one/7, 5*one/2),
		{X: between(-one, one), Y: between(0, 3), Z: between(one, 2*one)}, {X: between(-3, 5), Y: between(-2*one, -one), Z: exactly(0)},
	}
	random := rand.New(rand.NewPCG(39, 40))
	for range 12 {
		var components []impl.Interval
		for range 3 {
			lo := random.Int64N(200*one) - 100*one>>random.IntN(20)
			components = append(components, between(lo, lo+random.Int64N(one)>>random.IntN(34)))
		}
		list = append(list, vectorOf(components))
	}
	return list
}

// vectors returns vectors of all sizes, and such with whole components.
func vectors() []impl.Vec {
	const most = impl.MaxFix - 1
	list := append(smallVectors(),
		fixVector(most, 0, 0), fixVector(0, -most, 1), fixVector(most, most, most), fixVector(most/2, -most/2, 3), vector(16383, -16384, 7), vector(1<<27, 1, -1<<27))
	all, forms := boundedIntervals(), wholes()
	for i := range 20 {
		list = append(list, impl.Vec{X: all[i*7%len(all)], Y: all[(i*13+4)%len(all)], Z: all[(i*29+9)%len(all)]})
	}
	for i, w := range forms {
		good := smallVectors()[i%20]
		list = append(list, impl.Vec{X: w, Y: good.Y, Z: good.Z}, impl.Vec{X: good.X, Y: w, Z: good.Z}, impl.Vec{X: good.X, Y: good.Y, Z: w},
			impl.Vec{X: w, Y: forms[(i+5)%len(forms)], Z: w})
	}
	return list
}

// next returns the index of the component after that with the index k.
func next(k int) int { return (k + 1) % 3 }

// componentwise returns the results of a function for the components.
func componentwise(a, b impl.Vec, f func(a, b impl.Interval) impl.Interval) impl.Vec {
	return impl.Vec{X: f(a.X, b.X), Y: f(a.Y, b.Y), Z: f(a.Z, b.Z)}
}

// wantDot returns what DotV should return.
func wantDot(a, b impl.Vec) impl.Interval {
	return impl.AddI(impl.AddI(impl.MulI(a.X, b.X), impl.MulI(a.Y, b.Y)), impl.MulI(a.Z, b.Z))
}

// wantCross returns what CrossV should return.
func wantCross(a, b impl.Vec) impl.Vec {
	return impl.Vec{
		X: impl.SubI(impl.MulI(a.Y, b.Z), impl.MulI(a.Z, b.Y)),
		Y: impl.SubI(impl.MulI(a.Z, b.X), impl.MulI(a.X, b.Z)),
		Z: impl.SubI(impl.MulI(a.X, b.Y), impl.MulI(a.Y, b.X)),
	}
}

// wantNorm returns what NormV should return, from the exact squares.
func wantNorm(a impl.Vec) impl.Interval {
	least, most := new(big.Int), new(big.Int)
	for _, x := range componentsOf(a) {
		if impl.IsWhole(x) {
			return whole
		}
		near, far := min(size(x.Lo), size(x.Hi)), max(size(x.Lo), size(x.Hi))
		if hasZero(x) {
			near = 0
		}
		least.Add(least, new(big.Int).Mul(big.NewInt(near), big.NewInt(near)))
		most.Add(most, new(big.Int).Mul(big.NewInt(far), big.NewInt(far)))
	}
	lo, hi := new(big.Int).Sqrt(least), new(big.Int).Sqrt(most)
	if new(big.Int).Mul(hi, hi).Cmp(most) < 0 {
		hi.Add(hi, big.NewInt(1))
	}
	return fromTo(lo, hi)
}

func TestVectorsAreCombined(t *testing.T) {
	list := vectors()
	for i, a := range list {
		name := fmt.Sprint(a)
		norm := wantNorm(a)
		is(t, "NormV "+name, impl.NormV(a), norm)
		is(t, "UnitV "+name, impl.UnitV(a), componentwise(a, impl.Vec{X: norm, Y: norm, Z: norm}, impl.DivI))
		for _, b := range list {
			name := fmt.Sprint(a, b)
			is(t, "AddV "+name, impl.AddV(a, b), componentwise(a, b, impl.AddI))
			is(t, "SubV "+name, impl.SubV(a, b), componentwise(a, b, impl.SubI))
			is(t, "DotV "+name, impl.DotV(a, b), wantDot(a, b))
			is(t, "CrossV "+name, impl.CrossV(a, b), wantCross(a, b))
			is(t, "SameVec "+name, impl.SameVec(a, b), fmt.Sprint(a) == fmt.Sprint(b))
			overlap := impl.OverlapI(a.X, b.X) && impl.OverlapI(a.Y, b.Y) && impl.OverlapI(a.Z, b.Z)
			is(t, "OverlapV "+name, impl.OverlapV(a, b), overlap)
			for _, k := range componentsOf(list[(i*5+3)%len(list)]) {
				is(t, fmt.Sprint("ScaleV ", a, k), impl.ScaleV(a, k), componentwise(a, impl.Vec{X: k, Y: k, Z: k}, impl.MulI))
			}
		}
	}
}

func TestVectorsAreComparedComponentByComponent(t *testing.T) {
	a := impl.Vec{X: between(1, 3), Y: between(-5, 5), Z: exactly(7)}
	for k := range 3 {
		for _, c := range []struct {
			x             impl.Interval
			same, overlap bool
		}{
			{componentsOf(a)[k], true, true}, {whole, false, true}, {between(1, 0), false, true}, {between(-100, 100), false, true},
			{between(3, 7), false, true}, {between(8, 9), false, false}, {between(-9, -6), false, false},
		} {
			list := componentsOf(a)
			list[k] = c.x
			b := vectorOf(list)
			name := fmt.Sprint(a, b)
			is(t, "SameVec "+name, impl.SameVec(a, b), c.same)
			is(t, "SameVec in the other order "+name, impl.SameVec(b, a), c.same)
			is(t, "OverlapV "+name, impl.OverlapV(a, b), c.overlap)
			is(t, "OverlapV in the other order "+name, impl.OverlapV(b, a), c.overlap)
		}
	}
	for _, v := range wholes() {
		for _, w := range wholes() {
			for k := range 3 {
				p, q := componentsOf(a), componentsOf(a)
				p[k], q[k] = v, w
				is(t, fmt.Sprint("SameVec", p, q), impl.SameVec(vectorOf(p), vectorOf(q)), v == w)
				is(t, fmt.Sprint("OverlapV", p, q), impl.OverlapV(vectorOf(p), vectorOf(q)), true)
			}
		}
	}
	is(t, "SameVec of zeros", impl.SameVec(impl.Vec{}, impl.Vec{}), true)
}

// exactVec is a vector with exact components, in units.
type exactVec [3]*big.Rat

// someMembers returns some vectors of a bounded one.
func someMembers(a impl.Vec) []exactVec {
	var list []exactVec
	for i := range 4 {
		var v exactVec
		for k, x := range componentsOf(a) {
			m := members(x)
			v[k] = big.NewRat(m[(i*(k+1)+k)%len(m)], 1)
		}
		list = append(list, v)
	}
	return list
}

func (a exactVec) dot(b exactVec) *big.Rat {
	sum := new(big.Rat)
	for k, x := range a {
		sum.Add(sum, product(x, b[k]))
	}
	return sum
}

func (a exactVec) cross(b exactVec) exactVec {
	var c exactVec
	for k := range c {
		x, y := next(k), next(next(k))
		c[k] = new(big.Rat).Sub(product(a[x], b[y]), product(a[y], b[x]))
	}
	return c
}

// isInVec requires that a vector contains an exact one.
func isInVec(t *testing.T, name string, v exactVec, a impl.Vec) {
	t.Helper()
	for k, x := range componentsOf(a) {
		if !isIn(v[k], x) {
			t.Errorf("%s: the component %d, %v, does not contain %s", name, k, x, v[k].FloatString(3))
		}
	}
}

func TestProductsOfVectorsAreEnclosed(t *testing.T) {
	for _, a := range smallVectors() {
		for _, b := range smallVectors() {
			dot, cross := impl.DotV(a, b), impl.CrossV(a, b)
			is(t, "a product is known", dot != whole && cross.X != whole && cross.Y != whole && cross.Z != whole, true)
			for _, v := range someMembers(a) {
				for _, w := range someMembers(b) {
					name := fmt.Sprint(a, b)
					if exact := v.dot(w); !isIn(exact, dot) {
						t.Errorf("DotV %s: %v does not contain %s", name, dot, exact.FloatString(3))
					}
					isInVec(t, "CrossV "+name, v.cross(w), cross)
				}
			}
		}
		norm := impl.SqrI(impl.NormV(a))
		for _, v := range someMembers(a) {
			if exact := v.dot(v); !isIn(exact, norm) {
				t.Errorf("NormV %v: the square %v does not contain %s", a, norm, exact.FloatString(3))
			}
		}
	}
}

// opposite returns the vector with the opposite components.
func opposite(a impl.Vec) impl.Vec {
	return impl.Vec{X: impl.NegI(a.X), Y: impl.NegI(a.Y), Z: impl.NegI(a.Z)}
}

func TestProductsOfVectorsSatisfyTheirIdentities(t *testing.T) {
	list := smallVectors()
	for i, a := range list {
		for j, b := range list {
			name := func(what string) string { return fmt.Sprint(what, a, b) }
			c := list[(i*3+j*7)%len(list)]
			cross := impl.CrossV(a, b)
			is(t, name("a product in the other order"), impl.DotV(b, a), impl.DotV(a, b))
			is(t, name("a vector product in the other order"), impl.CrossV(b, a), opposite(cross))
			is(t, name("the first vector across the vector product"), impl.HasI(impl.DotV(a, cross), 0), true)
			is(t, name("the second vector across the vector product"), impl.HasI(impl.DotV(cross, b), 0), true)
			squares := impl.AddI(impl.DotV(cross, cross), impl.SqrI(impl.DotV(a, b)))
			is(t, name("the squares"), impl.OverlapI(squares, impl.MulI(impl.DotV(a, a), impl.DotV(b, b))), true)
			is(t, name("the volume"), impl.OverlapI(impl.DotV(cross, c), impl.DotV(a, impl.CrossV(b, c))), true)
			twice := impl.SubV(impl.ScaleV(b, impl.DotV(a, c)), impl.ScaleV(c, impl.DotV(a, b)))
			is(t, name("a vector product of a vector product"), impl.OverlapV(impl.CrossV(a, impl.CrossV(b, c)), twice), true)
			is(t, name("a sum less a vector"), impl.OverlapV(impl.SubV(impl.AddV(a, b), b), a), true)
			is(t, name("the product of a sum"), impl.OverlapI(impl.DotV(impl.AddV(a, b), c), impl.AddI(impl.DotV(a, c), impl.DotV(b, c))), true)
			is(t, name("the vector product of a sum"), impl.OverlapV(impl.CrossV(impl.AddV(a, b), c), impl.AddV(impl.CrossV(a, c), impl.CrossV(b, c))), true)
			is(t, name("the triangle inequality"), impl.LessI(impl.AddI(impl.NormV(a), impl.NormV(b)), impl.NormV(impl.AddV(a, b))) != impl.AnYes, true)
		}
		is(t, fmt.Sprint("the square of the length of ", a), impl.OverlapI(impl.SqrI(impl.NormV(a)), impl.DotV(a, a)), true)
		if unit := impl.UnitV(a); unit.X != whole {
			is(t, fmt.Sprint("the length of the direction of ", a), impl.HasI(impl.NormV(unit), impl.Unit), true)
			is(t, fmt.Sprint("the direction of ", a), impl.OverlapV(impl.ScaleV(unit, impl.NormV(a)), a), true)
		}
	}
}

func TestLengthsAtTheEdges(t *testing.T) {
	const one, most = impl.Unit, impl.MaxFix - 1
	for _, c := range []struct {
		a    impl.Vec
		want impl.Interval
	}{
		{vector(3, 4, 12), impl.Integer(13)}, {vector(-3, 4, -12), impl.Integer(13)}, {vector(12, 3, 4), impl.Integer(13)},
		{impl.Vec{}, impl.Integer(0)}, {fixVector(0, 0, -7), exactly(7)}, {fixVector(1, 1, 0), between(1, 2)}, {fixVector(1, 1, 1), between(1, 2)}, {fixVector(1, 2, 2), exactly(3)},
		{vector(1, 1, 0), impl.SqrtI(impl.Integer(2))}, {vector(0, 1, 1), between(6074000999, 6074001000)},
		{impl.Vec{X: between(-3*one, 2*one), Y: exactly(4 * one)}, between(4*one, 5*one)},
		{impl.Vec{X: between(3*one, 6*one), Y: between(-8*one, -4*one), Z: between(0, 0)}, between(5*one, 10*one)},
		{impl.Vec{X: between(-4*one, 3*one), Y: between(-1, 3*one), Z: between(-12*one, 0)}, between(0, 13*one)},
		{fixVector(most, 0, 0), exactly(most)}, {fixVector(0, -most, 0), exactly(most)}, {fixVector(most, 1, 0), whole}, // more than MaxFix - 1
		{fixVector(most-1, 1, 0), between(most-1, most)}, {fixVector(most-1, 0, 1<<30), between(most-1, most)},
		{fixVector(most-1, 1<<30, 1<<30-1), between(most-1, most)}, {fixVector(most-1, 1<<30, 1<<30), whole},
		{impl.Vec{X: between(0, most), Y: between(0, 1)}, whole}, {impl.Vec{X: between(0, most), Y: exactly(0)}, between(0, most)},
		{fixVector(most/13*3, -most/13*4, most/13*12), exactly(most)}, {fixVector(most/5*3, 0, most/5*4), exactly(most)}, {fixVector(most/5*3, 0, most/5*4+1), whole},
		{fixVector(most, most, most), whole}, {vector(1<<27, 1<<27, 1<<27), between(998459311558907193, 998459311558907194)},
		{vector(200000000, 200000000, 0), whole}, {vector(150000000, 150000000, 0), impl.NormV(vector(0, -150000000, 150000000))},
	} {
		is(t, fmt.Sprint("NormV", c.a), impl.NormV(c.a), c.want)
	}
	for _, w := range wholes() {
		for k := range 3 {
			list := componentsOf(vector(3, 4, 12))
			list[k] = w
			is(t, fmt.Sprint("NormV", list), impl.NormV(vectorOf(list)), whole)
			is(t, fmt.Sprint("UnitV", list), impl.UnitV(vectorOf(list)), impl.Vec{X: whole, Y: whole, Z: whole})
		}
	}
}

func TestDirectionsOfVectorsAtTheEdges(t *testing.T) {
	const one, most = impl.Unit, impl.MaxFix - 1
	unknown := impl.Vec{X: whole, Y: whole, Z: whole}
	for _, c := range []struct{ a, want impl.Vec }{
		{vector(0, 0, 5), vector(0, 0, 1)}, {vector(-7, 0, 0), vector(-1, 0, 0)}, {fixVector(0, 1, 0), vector(0, 1, 0)},
		{vector(3, 4, 0), impl.Vec{X: impl.Quotient(3, 5), Y: impl.Quotient(4, 5), Z: impl.Integer(0)}},
		{vector(3, -4, 12), impl.Vec{X: impl.Quotient(3, 13), Y: impl.Quotient(-4, 13), Z: impl.Quotient(12, 13)}},
		{impl.Vec{}, unknown}, {impl.Vec{X: between(-1, 1), Y: between(0, one), Z: between(-one, 0)}, unknown}, // the length contains 0
		{impl.Vec{X: between(0, one)}, unknown}, {impl.Vec{X: between(1, one)}, impl.Vec{X: whole}},
		{fixVector(most, 0, 0), vector(1, 0, 0)}, {fixVector(most, most, 0), unknown}, {fixVector(most, 1, 0), unknown},
	} {
		is(t, fmt.Sprint("UnitV", c.a), impl.UnitV(c.a), c.want)
	}
}

// turning is a function that turns about an axis.
type turning struct {
	name string
	run  func(a impl.Vec, angle impl.Interval) impl.Vec
	axis int
}

func turnings() []turning {
	return []turning{{"TurnX", impl.TurnX, 0}, {"TurnY", impl.TurnY, 1}, {"TurnZ", impl.TurnZ, 2}}
}

// wantTurned returns the vector turned about an axis.
func wantTurned(a impl.Vec, axis int, angle impl.Interval) impl.Vec {
	list := componentsOf(a)
	x, y, sine, cosine := list[next(axis)], list[next(next(axis))], impl.SinI(angle), impl.CosI(angle)
	list[next(axis)] = impl.SubI(impl.MulI(x, cosine), impl.MulI(y, sine))
	list[next(next(axis))] = impl.AddI(impl.MulI(x, sine), impl.MulI(y, cosine))
	return vectorOf(list)
}

// someAngles returns intervals of angles, and intervals that are none.
func someAngles() []impl.Interval {
	const one = impl.Unit
	list := []impl.Interval{
		exactly(0), exactly(1), exactly(one), exactly(-3 * one), impl.TurnI(1), impl.TurnI(-1), impl.TurnI(2), impl.TurnI(5), impl.RadiansOf(300000000),
		between(-one/9, one/7), between(one, 9*one), exactly(impl.MaxAngle), exactly(-impl.MaxAngle), exactly(impl.MaxAngle + 1), exactly(impl.MaxFix - 1),
	}
	random := rand.New(rand.NewPCG(41, 42))
	for range 6 {
		lo := random.Int64N(20*one) - 10*one
		list = append(list, between(lo, lo+random.Int64N(one)>>random.IntN(34)))
	}
	return append(list, wholes()...)
}

func TestTurningReplacesTwoComponents(t *testing.T) {
	for _, a := range vectors() {
		for _, angle := range someAngles() {
			for _, f := range turnings() {
				name := fmt.Sprint(f.name, a, angle)
				got := f.run(a, angle)
				is(t, name, got, wantTurned(a, f.axis, angle))
				is(t, "the axis of "+name, componentsOf(got)[f.axis], componentsOf(a)[f.axis])
			}
		}
	}
}

func TestTurningKeepsLengths(t *testing.T) {
	narrow := 0
	for i, a := range smallVectors() {
		b := smallVectors()[(i*5+3)%20]
		for _, angle := range someAngles() {
			for _, f := range turnings() {
				name := func(what string) string { return fmt.Sprint(what, " by ", f.name, a, angle) }
				turned := f.run(a, angle)
				is(t, name("the length"), impl.OverlapI(impl.NormV(turned), impl.NormV(a)), true)
				is(t, name("the product"), impl.OverlapI(impl.DotV(turned, f.run(b, angle)), impl.DotV(a, b)), true)
				is(t, name("turning back"), impl.OverlapV(f.run(turned, impl.NegI(angle)), a), true)
				is(t, name("turning on"), impl.OverlapV(f.run(turned, impl.Integer(1)), f.run(a, impl.AddI(angle, impl.Integer(1)))), true)
				if impl.WidthI(impl.NormV(turned)) <= impl.WidthI(impl.NormV(a))+2000 {
					narrow++
				}
			}
		}
	}
	if narrow < 300 {
		t.Errorf("only %d turned vectors are narrow", narrow)
	}
}

func TestTurnedVectorsAreEnclosed(t *testing.T) {
	for _, a := range smallVectors() {
		for _, angle := range someAngles()[:12] {
			for _, f := range turnings() {
				turned := componentsOf(f.run(a, angle))
				for _, n := range members(angle) {
					sine, cosine := sineAndCosine(valueOf(n))
					for _, v := range someMembers(a) {
						x, y := inReal(v[next(f.axis)]), inReal(v[next(next(f.axis))])
						name := fmt.Sprint(f.name, a, angle)
						contains(t, name, turned[next(f.axis)], minus(times(x, cosine), times(y, sine)))
						contains(t, name, turned[next(next(f.axis))], plus(times(x, sine), times(y, cosine)))
					}
				}
			}
		}
	}
}

// inReal returns the value of a number of units.
func inReal(x *big.Rat) *big.Float {
	n, _ := new(big.Float).SetPrec(precision).SetRat(x).Int64()
	return valueOf(n)
}

func TestTurningAtTheEdges(t *testing.T) {
	const one = impl.Unit
	a := vector(1, 2, 3)
	for _, c := range []struct {
		angle   impl.Interval
		x, y, z impl.Vec
		width   int64
	}{
		{exactly(0), a, a, a, 20},
		{impl.TurnI(1), vector(1, -3, 2), vector(3, 2, -1), vector(-2, 1, 3), 40},
		{impl.TurnI(-1), vector(1, 3, -2), vector(-3, 2, 1), vector(2, -1, 3), 40},
		{impl.TurnI(2), vector(1, -2, -3), vector(-1, 2, -3), vector(-1, -2, 3), 40},
		{impl.TurnI(4), a, a, a, 60},
	} {
		for k, want := range []impl.Vec{c.x, c.y, c.z} {
			got := turnings()[k].run(a, c.angle)
			name := fmt.Sprint(turnings()[k].name, " by ", c.angle)
			is(t, name, impl.OverlapV(got, want), true)
			for _, x := range componentsOf(got) {
				isNarrow(t, name, x, c.width)
			}
		}
	}
	// Sine and cosine of an unknown angle are from -1 to 1.
	for _, w := range wholes() {
		is(t, fmt.Sprint("TurnX by ", w), impl.TurnX(a, w), impl.Vec{X: impl.Integer(1), Y: between(-5*one, 5*one), Z: between(-5*one, 5*one)})
		is(t, fmt.Sprint("TurnY by ", w), impl.TurnY(a, w), impl.Vec{X: between(-4*one, 4*one), Y: impl.Integer(2), Z: between(-4*one, 4*one)})
		is(t, fmt.Sprint("TurnZ by ", w), impl.TurnZ(a, w), impl.Vec{X: between(-3*one, 3*one), Y: between(-3*one, 3*one), Z: impl.Integer(3)})
		is(t, fmt.Sprint("TurnX of ", w), impl.TurnX(impl.Vec{X: w, Y: impl.Integer(1)}, impl.Whole()), impl.Vec{X: w, Y: between(-one, one), Z: between(-one, one)})
	}
}

// rowsOf returns the rows of a matrix.
func rowsOf(m impl.Mat) []impl.Vec { return []impl.Vec{m.A, m.B, m.C} }

// matrixOf returns the matrix with some rows.
func matrixOf(list []impl.Vec) impl.Mat { return impl.Mat{A: list[0], B: list[1], C: list[2]} }

// columnOf returns a column of a matrix.
func columnOf(m impl.Mat, k int) impl.Vec {
	return impl.Vec{X: componentsOf(m.A)[k], Y: componentsOf(m.B)[k], Z: componentsOf(m.C)[k]}
}

// identity is the matrix that changes no vector.
func identity() impl.Mat {
	return impl.Mat{A: vector(1, 0, 0), B: vector(0, 1, 0), C: vector(0, 0, 1)}
}

// matrices returns matrices of some vectors; every second one turns vectors.
func matrices(list []impl.Vec) []impl.Mat {
	all := []impl.Mat{
		{}, identity(), {A: vector(1, 2, 0), B: vector(0, 1, 3), C: vector(2, 0, 1)}, {A: vector(1, 0, 0), B: vector(0, 0, 1), C: vector(0, 1, 0)},
		{A: vector(1, 2, 3), B: vector(2, 4, 6), C: vector(0, 0, 1)}, {A: vector(2, 0, 0), B: vector(0, -3, 0), C: vector(0, 0, 5)},
	}
	for i := range list {
		all = append(all, impl.Mat{A: list[i], B: list[(i*3+1)%len(list)], C: list[(i*7+4)%len(list)]})
		var turn impl.Mat
		for k, row := range rowsOf(identity()) {
			rows := rowsOf(turn)
			rows[k] = impl.TurnX(impl.TurnZ(row, impl.Integer(int64(i))), exactly(int64(i*i)*impl.Unit/3))
			turn = matrixOf(rows)
		}
		all = append(all, turn)
	}
	return all
}

// wantMul returns what MulM should return.
func wantMul(m, n impl.Mat) impl.Mat {
	var rows []impl.Vec
	for _, row := range rowsOf(m) {
		var list []impl.Interval
		for k := range 3 {
			list = append(list, wantDot(columnOf(n, k), row))
		}
		rows = append(rows, vectorOf(list))
	}
	return matrixOf(rows)
}

// wantInverse returns what InverseM should return.
func wantInverse(m impl.Mat) (impl.Mat, bool) {
	cofactors := impl.Mat{A: wantCross(m.B, m.C), B: wantCross(m.C, m.A), C: wantCross(m.A, m.B)}
	d := wantDot(m.A, cofactors.A)
	if impl.HasI(d, 0) {
		return impl.Mat{}, false
	}
	var rows []impl.Vec
	for k := range 3 {
		rows = append(rows, componentwise(columnOf(cofactors, k), impl.Vec{X: d, Y: d, Z: d}, impl.DivI))
	}
	return matrixOf(rows), true
}

func TestMatricesAreMultipliedAndInverted(t *testing.T) {
	list := matrices(vectors())
	found := map[bool]int{}
	for i, m := range list {
		for _, a := range vectors() {
			want := impl.Vec{X: wantDot(m.A, a), Y: wantDot(m.B, a), Z: wantDot(m.C, a)}
			is(t, fmt.Sprint("ApplyM", m, a), impl.ApplyM(m, a), want)
		}
		for k := range 20 {
			n := list[(i*7+k*k*5)%len(list)]
			is(t, fmt.Sprint("MulM", m, n), impl.MulM(m, n), wantMul(m, n))
		}
		got, ok := impl.InverseM(m)
		want, wantOk := wantInverse(m)
		is(t, fmt.Sprint("InverseM", m), got, want)
		is(t, fmt.Sprint("the answer of InverseM", m), ok, wantOk)
		found[ok]++
	}
	if found[true] < 30 || found[false] < 30 {
		t.Errorf("there are inverses: %v", found)
	}
}

// overlapM reports whether two matrices may be the same.
func overlapM(m, n impl.Mat) bool {
	return impl.OverlapV(m.A, n.A) && impl.OverlapV(m.B, n.B) && impl.OverlapV(m.C, n.C)
}

func TestProductsOfMatricesSatisfyTheirIdentities(t *testing.T) {
	list := matrices(smallVectors())
	narrow := 0
	for i, m := range list {
		is(t, fmt.Sprint("the product with 1 behind ", m), impl.MulM(m, identity()), m)
		is(t, fmt.Sprint("the product with 1 before ", m), impl.MulM(identity(), m), m)
		for k, a := range smallVectors() {
			n, o := list[(i*7+k*3+1)%len(list)], list[(i+k*5+2)%len(list)]
			name := func(what string) string { return fmt.Sprint(what, m, n, a) }
			product := impl.MulM(m, n)
			is(t, name("a product applied"), impl.OverlapV(impl.ApplyM(product, a), impl.ApplyM(m, impl.ApplyM(n, a))), true)
			is(t, name("a product of products"), overlapM(impl.MulM(product, o), impl.MulM(m, impl.MulM(n, o))), true)
			is(t, name("a sum"), impl.OverlapV(impl.ApplyM(m, impl.AddV(a, o.A)), impl.AddV(impl.ApplyM(m, a), impl.ApplyM(m, o.A))), true)
		}
		inverse, ok := impl.InverseM(m)
		if !ok {
			continue
		}
		name := func(what string) string { return fmt.Sprint(what, m, inverse) }
		is(t, name("the inverse behind the matrix"), overlapM(impl.MulM(m, inverse), identity()), true)
		is(t, name("the inverse before the matrix"), overlapM(impl.MulM(inverse, m), identity()), true)
		if again, ok := impl.InverseM(inverse); ok {
			is(t, name("the inverse of the inverse"), overlapM(again, m), true)
		}
		a := smallVectors()[i%20]
		is(t, name("the inverse applied"), impl.OverlapV(impl.ApplyM(inverse, impl.ApplyM(m, a)), a), true)
		if width := impl.WidthI(impl.MulM(m, inverse).A.X); 0 <= width && width < 1000 {
			narrow++
		}
	}
	if narrow < 20 {
		t.Errorf("only %d products with the inverse are narrow", narrow)
	}
}

func TestInversesAtTheEdges(t *testing.T) {
	const one = impl.Unit
	unknown := identity()
	unknown.C.Z = whole
	for _, c := range []struct {
		m, want impl.Mat
		ok      bool
	}{
		{identity(), identity(), true},
		{impl.Mat{A: vector(0, 1, 0), B: vector(0, 0, 1), C: vector(1, 0, 0)}, impl.Mat{A: vector(0, 0, 1), B: vector(1, 0, 0), C: vector(0, 1, 0)}, true},
		{impl.Mat{A: vector(1, 2, 0), B: vector(0, 1, 0), C: vector(0, 0, -1)}, impl.Mat{A: vector(1, -2, 0), B: vector(0, 1, 0), C: vector(0, 0, -1)}, true},
		{impl.Mat{A: vector(2, 0, 0), B: vector(0, 2, 0), C: vector(3, 0, 2)}, impl.Mat{A: fixVector(one/2, 0, 0), B: fixVector(0, one/2, 0), C: fixVector(-3*one/4, 0, one/2)}, true},
		// The determinant contains 0.
		{impl.Mat{}, impl.Mat{}, false},
		{impl.Mat{A: vector(1, 2, 3), B: vector(2, 4, 6), C: vector(0, 0, 1)}, impl.Mat{}, false},
		{impl.Mat{A: impl.Vec{X: between(-1, one)}, B: vector(0, 1, 0), C: vector(0, 0, 1)}, impl.Mat{}, false},
		{impl.Mat{A: impl.Vec{X: between(0, one)}, B: vector(0, 1, 0), C: vector(0, 0, 1)}, impl.Mat{}, false},
		{impl.Mat{A: impl.Vec{X: between(-one, 0)}, B: vector(0, 1, 0), C: vector(0, 0, 1)}, impl.Mat{}, false},
		{impl.Mat{A: fixVector(1, 0, 0), B: fixVector(0, 1, 0), C: vector(0, 0, 1)}, impl.Mat{}, false}, // rounded to 0
		{impl.Mat{A: fixVector(-1, 0, 0), B: fixVector(0, 1, 0), C: vector(0, 0, 1)}, impl.Mat{}, false},
		// The determinant is whole.
		{impl.Mat{A: vector(20000, 0, 0), B: vector(0, 20000, 0), C: vector(0, 0, 1)}, impl.Mat{}, false},
		{impl.Mat{A: impl.Vec{X: whole}, B: vector(0, 1, 0), C: vector(0, 0, 1)}, impl.Mat{}, false},
		{unknown, impl.Mat{}, false},
		// Some components are whole.
		{impl.Mat{A: vector(1, 0, 0), B: vector(0, 1, 0), C: fixVector(0, 0, 1)}, unknown, true},
		{impl.Mat{A: vector(1, 0, 0), B: vector(0, 1, 0), C: fixVector(0, 0, -16)}, unknown, true},
		{impl.Mat{A: fixVector(17, 0, 0), B: vector(0, 1, 0), C: vector(0, 0, 1)},
			impl.Mat{A: impl.Vec{X: impl.DivI(impl.Integer(1), exactly(17))}, B: vector(0, 1, 0), C: vector(0, 0, 1)}, true},
	} {
		got, ok := impl.InverseM(c.m)
		is(t, fmt.Sprint("InverseM", c.m), got, c.want)
		is(t, fmt.Sprint("the answer of InverseM", c.m), ok, c.ok)
	}
	for _, w := range wholes() {
		m := impl.Mat{A: vector(1, 0, 0), B: impl.Vec{X: w, Y: impl.Integer(1)}, C: vector(0, 0, 1)}
		got, ok := impl.InverseM(m)
		want, wantOk := wantInverse(m)
		is(t, fmt.Sprint("InverseM", m), got, want)
		is(t, fmt.Sprint("the answer of InverseM", m), ok, wantOk)
	}
}

func TestProductsOfMatricesAtTheEdges(t *testing.T) {
	m := impl.Mat{A: vector(1, 2, 3), B: vector(4, 5, 6), C: vector(7, 8, 9)}
	n := impl.Mat{A: vector(1, 0, 2), B: vector(0, -1, 3), C: vector(5, 1, 0)}
	is(t, "MulM", impl.MulM(m, n), impl.Mat{A: vector(16, 1, 8), B: vector(34, 1, 23), C: vector(52, 1, 38)})
	is(t, "MulM in the other order", impl.MulM(n, m), impl.Mat{A: vector(15, 18, 21), B: vector(17, 19, 21), C: vector(9, 15, 21)})
	is(t, "ApplyM", impl.ApplyM(m, vector(1, -1, 2)), vector(5, 11, 17))
	// Sums are computed from X to Z.
	const half = 1 << 27
	is(t, "a sum that is not known", impl.ApplyM(impl.Mat{A: vector(half, half, -half)}, vector(1, 1, 1)), impl.Vec{X: whole})
	is(t, "a sum that is known", impl.ApplyM(impl.Mat{A: vector(half, -half, half)}, vector(1, 1, 1)), impl.Vec{X: impl.Integer(half)})
	unknown := m
	unknown.B.Z = between(1, 0)
	is(t, "a product with a whole component", impl.MulM(unknown, n), impl.Mat{A: vector(16, 1, 8), B: impl.Vec{X: whole, Y: whole, Z: whole}, C: vector(52, 1, 38)})
	is(t, "a whole column", impl.MulM(n, unknown), impl.Mat{
		A: impl.Vec{X: impl.Integer(15), Y: impl.Integer(18), Z: whole},
		B: impl.Vec{X: impl.Integer(17), Y: impl.Integer(19), Z: whole},
		C: impl.Vec{X: impl.Integer(9), Y: impl.Integer(15), Z: whole},
	})
}
