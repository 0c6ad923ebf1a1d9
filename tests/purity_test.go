package tests

import (
	"fmt"
	"slices"
	"sync"
	"testing"

	"loop.example/g00880/impl"
)

// texts are strings that are names, numbers, words, intervals, and none of these.
var texts = []string{
	"", " ", "   ", "a", "grid7", "7grid", "-0", "0", "007", "-12", " a  b ", "\xff", "\u00e9 x", "999999999999999999", "1000000000000000000",
	"0.1", "-0.1", "-0.0", "268435456", "268435457", "whole", "[-0.1, 0.1]", "[1, 0]", "[0, 268435456]", "[0, 1",
}

// basicsOf prints the results of all functions of chapter 1 for numbers and a text.
func basicsOf(a, b int64, s string) string {
	n, ok := impl.ReadDecimal(s)
	return fmt.Sprintf("%q %q %d %d %d %t %q %d %t %q",
		impl.CodeName(a), impl.AnswerName(a), impl.AndAnswer(a, b), impl.OrAnswer(a, b), impl.NotAnswer(a),
		impl.IsName(s), impl.Decimal(a), n, ok, impl.SplitWords(s))
}

// numbersOf prints the results of all functions of chapter 2 for int64.
func numbersOf(a, b, c int64) string {
	x, xOk := impl.MulFloor(a, b, c)
	y, yOk := impl.MulDivFloor(a, b, c)
	z, zOk := impl.SqrtFloor(a, b)
	return fmt.Sprint(impl.WideOf(a), impl.WideMul(a, b), x, xOk, y, yOk, z, zOk)
}

// widesOf prints the results of all functions of chapter 2 for wide numbers.
func widesOf(v, w impl.Wide, n int64) string {
	i, iOk := impl.WideInt(v)
	sum, sumOk := impl.WideAdd(v, w)
	neg, negOk := impl.WideNeg(v)
	q, r, divOk := impl.WideDiv(v, n)
	root, rootOk := impl.WideSqrt(v)
	return fmt.Sprint(i, iOk, sum, sumOk, neg, negOk, impl.WideCompare(v, w), impl.WideShift(v, n),
		q, r, divOk, root, rootOk, impl.WideText(v))
}

// fixesOf prints the results of all functions of chapter 3.
func fixesOf(a, b int64, s string) string {
	list := []any{impl.ValidFix(a), impl.TextDown(a, b), impl.TextUp(a, b)}
	for _, f := range []func(a, b int64) (int64, bool){impl.FixFloor, impl.FixCeil, impl.MulDown, impl.MulUp, impl.DivDown, impl.DivUp} {
		n, ok := f(a, b)
		list = append(list, n, ok)
	}
	for _, f := range []func(a int64) (int64, bool){impl.SqrtDown, impl.SqrtUp} {
		n, ok := f(a)
		list = append(list, n, ok)
	}
	down, up, ok := impl.ReadFix(s)
	return fmt.Sprint(append(list, down, up, ok)...)
}

// intervalsOf prints the results of all functions of chapter 4.
func intervalsOf(a, b impl.Interval, n int64, s string) string {
	meet, meetOk := impl.MeetI(a, b)
	read, readOk := impl.ReadInterval(s)
	return fmt.Sprint(impl.Whole(), impl.ValidInterval(a), impl.IsWhole(a), impl.Integer(n), impl.Quotient(n, b.Lo),
		impl.AddI(a, b), impl.SubI(a, b), impl.NegI(a), impl.MulI(a, b), impl.DivI(a, b), impl.SqrI(a), impl.SqrtI(a),
		impl.AbsI(a), impl.MinI(a, b), impl.MaxI(a, b), impl.HalfI(a), impl.DoubleI(a), impl.HullI(a, b), meet, meetOk,
		impl.HasI(a, n), impl.InsideI(a, b), impl.OverlapI(a, b), impl.LessI(a, b), impl.WidthI(a), impl.MidI(a),
		impl.IntervalText(a), read, readOk)
}

// constantsOf prints the results of all functions of chapter 5.
func constantsOf(a, b int64, x impl.Interval) string {
	lower, upper, ok := impl.UnitsOf(x)
	return fmt.Sprint(impl.PiI(), impl.TurnI(a), impl.RadiansOf(a), impl.DegreesOf(x), lower, upper, ok,
		impl.ArcCotangent(a, b), impl.MachinPi(a), impl.EulerPi(a))
}

// trigonometryOf prints the results of all functions of chapter 6.
func trigonometryOf(n int64, x impl.Interval) string {
	return fmt.Sprint(impl.QuarterOf(n), impl.SinSeries(x), impl.CosSeries(x), impl.SinAt(n), impl.CosAt(n),
		impl.SinI(x), impl.CosI(x), impl.TanI(x))
}

// arcsOf prints the results of all functions of chapter 7.
func arcsOf(m, n int64, x, y impl.Interval) string {
	return fmt.Sprint(impl.ArcSeries(x), impl.CircleAt(n), impl.AtanAt(n), impl.AsinAt(n), impl.AtanI(x), impl.AsinI(x),
		impl.AcosI(x), impl.DirectionAt(m, n), impl.DirectionI(y, x))
}

// exponentialsOf prints the results of all functions of chapter 8.
func exponentialsOf(k, n int64, x impl.Interval) string {
	return fmt.Sprint(impl.LogTwoI(k), impl.ExpAt(n), impl.LogAt(n), impl.ExpI(x), impl.LogI(x), impl.SinhI(x), impl.CoshI(x),
		impl.TanhI(x), impl.AsinhI(x), impl.AtanhI(x), impl.PowerI(x, k))
}

// rootsOf prints the results of all functions of chapter 9.
func rootsOf(p, q []impl.Interval, x impl.Interval, n int64) string {
	slope, slopeCode := impl.PolyDerivative(p)
	sum, sumCode := impl.AddPolys(p, q)
	product, productCode := impl.MulPolys(p, q)
	half, halfCode := impl.BisectRoot(p, x, n)
	newton, newtonCode := impl.NewtonRoot(p, x, n)
	certain, doubtful, code := impl.RootsIn(p, x, n)
	return fmt.Sprint(impl.ValidPoly(p), impl.PolyAt(p, x), slope, slopeCode, sum, sumCode, product, productCode, impl.SignI(x),
		impl.SignChange(p, x), impl.UniqueRoot(p, x), half, halfCode, newton, newtonCode, certain, doubtful, code)
}

// vectorsOf prints the results of all functions of chapter 10.
func vectorsOf(a, b, c impl.Vec, x impl.Interval) string {
	m, n := impl.Mat{A: a, B: b, C: c}, impl.Mat{A: c, B: a, C: b}
	inverse, ok := impl.InverseM(m)
	return fmt.Sprint(impl.SameVec(a, b), impl.AddV(a, b), impl.SubV(a, b), impl.ScaleV(a, x), impl.DotV(a, b), impl.CrossV(a, b), impl.NormV(a), impl.UnitV(a),
		impl.OverlapV(a, b), impl.TurnX(a, x), impl.TurnY(a, x), impl.TurnZ(a, x), impl.ApplyM(m, a), impl.MulM(m, n), inverse, ok)
}

// anglesOf prints the results of all functions of chapter 11.
func anglesOf(p, q impl.Point, n int64, x, y impl.Interval, s string) string {
	between, betweenCode := impl.LonBetween(p, q)
	other, otherCode := impl.Antipode(p)
	same, sameCode := impl.SamePlace(p, q)
	point, pointOk := impl.ReadPoint(s)
	text, textCode := impl.AngleText(n)
	angle, angleOk := impl.ReadAngle(s)
	middle, doubt, middleCode := impl.MiddlePoint(x, y)
	return fmt.Sprint(impl.ValidPoint(p), impl.WrapLon(n), between, betweenCode, impl.LatOf(p), impl.LonOf(p), other, otherCode, same, sameCode,
		impl.PointText(p), point, pointOk, text, textCode, angle, angleOk, middle, doubt, middleCode, impl.AtPoint(x, y, p))
}

// everything prints the results of all functions for many arguments.
func everything() []string {
	var lines []string
	list, wide := numbers(), wides()
	for i, a := range list {
		b := list[(i*7+3)%len(list)]
		for _, s := range texts {
			lines = append(lines, basicsOf(a, b, s))
		}
		for k := range int64(130) {
			lines = append(lines, numbersOf(a, b, k-1))
		}
		lines = append(lines, numbersOf(a, b, a), numbersOf(a, b, b))
	}
	for i, v := range wide {
		w := wide[(i*11+5)%len(wide)]
		for _, n := range list {
			lines = append(lines, widesOf(v, w, n))
		}
	}
	lines = append(lines, fixesAndIntervals()...)
	lines = append(lines, trigonometry()...)
	lines = append(lines, arcs()...)
	lines = append(lines, exponentials()...)
	lines = append(lines, rootsAndVectors()...)
	return append(lines, pointsAndAngles()...)
}

// fixesAndIntervals prints the results of all functions of the chapters 3 and
// 4 for many arguments.
func fixesAndIntervals() []string {
	var lines []string
	list := append(fixes(), numbers()...)
	for i, a := range list {
		for k, s := range texts {
			lines = append(lines, fixesOf(a, list[(i+k*k)%len(list)], s), fixesOf(a, int64(k-1), s))
		}
	}
	intervals := append(boundedIntervals(), wholes()...)
	for i, a := range intervals {
		for k, n := range list {
			b := intervals[(i*5+k*7)%len(intervals)]
			lines = append(lines, intervalsOf(a, b, n, texts[(i+k)%len(texts)]))
		}
	}
	return lines
}

// trigonometry prints the results of all functions of the chapters 5 and 6 for
// many arguments.
func trigonometry() []string {
	var lines []string
	list := append(fixes(), numbers()...)
	list = append(list, impl.MaxAngle, impl.MaxAngle+1, -impl.MaxAngle, -impl.MaxAngle-1, impl.MaxTurns, impl.MaxTurns+1)
	intervals := append(boundedIntervals(), wholes()...)
	for lo := int64(-impl.MaxAngle); lo < impl.MaxAngle; lo += impl.MaxAngle / 97 {
		intervals = append(intervals, impl.Interval{Lo: lo, Hi: lo + size(lo)/4})
	}
	for i, x := range intervals {
		n := list[i%len(list)]
		lines = append(lines, constantsOf(n, list[(i*7+3)%len(list)], x), trigonometryOf(n, x))
		for terms := int64(-1); terms <= impl.MaxTerms+1; terms += 3 {
			lines = append(lines, constantsOf(terms, int64(i%43-1), x))
		}
	}
	return lines
}

// arcs prints the results of all functions of chapter 7 for many arguments.
func arcs() []string {
	var lines []string
	list := append(append(fixes(), numbers()...), coordinates...)
	intervals := append(append(boundedIntervals(), wholes()...), boxSides()...)
	for i, x := range intervals {
		for k, n := range list {
			y := intervals[(i*3+k*11)%len(intervals)]
			lines = append(lines, arcsOf(list[(i+k*5)%len(list)], n, x, y))
		}
	}
	for i, n := range ringNumbers() {
		x := impl.Interval{Lo: n, Hi: n + size(n)}
		lines = append(lines, arcsOf(n, list[i%len(list)], x, exactly(n)), arcsOf(-n, n, exactly(-n), x))
	}
	return lines
}

// exponentials prints the results of all functions of chapter 8 for many
// arguments.
func exponentials() []string {
	var lines []string
	list := append(append(fixes(), numbers()...), append(exponents(), positives()...)...)
	intervals := append(expIntervals(), wholes()...)
	for i, x := range intervals {
		n := list[i%len(list)]
		lines = append(lines, exponentialsOf(int64(i%20-1), n, x), exponentialsOf(n, list[(i*5+3)%len(list)], x))
	}
	for i, n := range list {
		lines = append(lines, exponentialsOf(int64(i%135-67), n, exactly(n)))
	}
	return lines
}

// rootsAndVectors prints the results of all functions of the chapters 9 and 10
// for many arguments.
func rootsAndVectors() []string {
	var lines []string
	list := append(polynomials(), noPolynomials()...)
	intervals := append(rootIntervals(), wholes()...)
	for i, p := range list {
		for k, x := range intervals {
			lines = append(lines, rootsOf(p, list[(i*5+k*3)%len(list)], x, int64((i+k*7)%64-1)))
		}
	}
	spaces, angles := vectors(), someAngles()
	for i, a := range spaces {
		for k, x := range angles {
			lines = append(lines, vectorsOf(a, spaces[(i*3+k)%len(spaces)], spaces[(i+k*5)%len(spaces)], x))
		}
	}
	return lines
}

// pointsAndAngles prints the results of all functions of chapter 11 for many
// arguments.
func pointsAndAngles() []string {
	var lines []string
	all := append(onEarth(), noPoints()...)
	intervals := append(earthIntervals(), wholes()...)
	list := append(append(numbers(), angleNumbers()...), beyondAngles...)
	forms := append(variants("-0.0000001 52.5000000", "-0. \xff"), variants("-12d34m56.76996s", "-0d. \xff")...)
	forms = append(forms, texts...)
	for i, p := range all {
		for k := range 8 {
			j := i*8 + k
			q, x, y := all[(j*7+3)%len(all)], intervals[j%len(intervals)], intervals[j*5%len(intervals)]
			lines = append(lines, anglesOf(p, q, list[j%len(list)], x, y, forms[j%len(forms)]), anglesOf(p, p, list[j*3%len(list)], impl.LatOf(p), y, impl.PointText(p)))
		}
	}
	return lines
}

// withRoom returns a copy of a list with unused capacity, and all of its memory.
func withRoom(p []impl.Interval) ([]impl.Interval, []impl.Interval) {
	all := append(slices.Clone(p), cells(77, 5, 5)...)
	return all[:len(p)], all
}

func TestListsAreNotChanged(t *testing.T) {
	list := append(polynomials(), noPolynomials()...)
	for i, p := range list {
		a, allOfA := withRoom(p)
		b, allOfB := withRoom(list[(i*7+2)%len(list)])
		wantA, wantB := slices.Clone(allOfA), slices.Clone(allOfB)
		for k, x := range rootIntervals() {
			rootsOf(a, b, x, int64(i*k%61))
			rootsOf(b, a, x, int64(i*k%61))
		}
		is(t, fmt.Sprint("the list ", p), fmt.Sprint(allOfA), fmt.Sprint(wantA))
		is(t, fmt.Sprint("the list ", p), fmt.Sprint(allOfB), fmt.Sprint(wantB))
	}
}

// listsOf returns the lists that are results of chapter 9.
func listsOf(p, q []impl.Interval) [][]impl.Interval {
	slope, _ := impl.PolyDerivative(p)
	sum, _ := impl.AddPolys(p, q)
	product, _ := impl.MulPolys(p, q)
	certain, doubtful, _ := impl.RootsIn(p, between(-3*impl.Unit, 4*impl.Unit), 7)
	return [][]impl.Interval{slope, sum, product, certain, doubtful}
}

func TestListsShareNoMemory(t *testing.T) {
	list := append(polynomials(), factors(-2, 1, 1))
	for i, p := range list {
		for _, q := range [][]impl.Interval{polyOf(0), polyOf(1), list[(i*7+2)%len(list)]} {
			a, allOfA := withRoom(p)
			b, allOfB := withRoom(q)
			others := append(listsOf(a, b), allOfA, allOfB)
			for k, result := range listsOf(a, b) {
				others = append(others, result)
				before := fmt.Sprint(others[:len(others)-1])
				for j := range result[:cap(result)] {
					result[:cap(result)][j] = exactly(int64(-12345 - k))
				}
				is(t, fmt.Sprint("the lists beside a result for ", p, q), fmt.Sprint(others[:len(others)-1]), before)
			}
		}
	}
}

func TestEqualArgumentsHaveEqualResults(t *testing.T) {
	want := everything()
	var wait sync.WaitGroup
	for range 4 {
		// Several at once: a result that depended on kept state would differ.
		wait.Go(func() {
			for i, line := range everything() {
				if line != want[i] {
					t.Errorf("got %s, before %s", line, want[i])
					return
				}
			}
		})
	}
	wait.Wait()
}
