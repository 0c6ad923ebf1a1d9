package tests

import (
	"fmt"
	"sync"
	"testing"

	"loop.example/g00880/impl"
)

// texts are strings that are names, numbers, words, and none of these.
var texts = []string{"", " ", "   ", "a", "grid7", "7grid", "-0", "0", "007", "-12", " a  b ", "\xff", "\u00e9 x", "999999999999999999", "1000000000000000000"}

// basicsOf prints the results of all functions of chapter 1 for numbers and a text.
func basicsOf(a, b int64, s string) string {
	n, ok := impl.ReadDecimal(s)
	return fmt.Sprintf("%q %q %d %d %d %t %q %d %t %q",
		impl.CodeName(a), impl.AnswerName(a), impl.AndAnswer(a, b), impl.OrAnswer(a, b), impl.NotAnswer(a),
		impl.IsName(s), impl.Decimal(a), n, ok, impl.SplitWords(s))
}

// numbersOf prints the results of all functions of chapter 2 for int64.
func numbersOf(a, b, c int64) string {
	x, xOk := impl.MulFloor(a, b, c)
	y, yOk := impl.MulDivFloor(a, b, c)
	z, zOk := impl.SqrtFloor(a, b)
	return fmt.Sprint(impl.WideOf(a), impl.WideMul(a, b), x, xOk, y, yOk, z, zOk)
}

// widesOf prints the results of all functions of chapter 2 for wide numbers.
func widesOf(v, w impl.Wide, n int64) string {
	i, iOk := impl.WideInt(v)
	sum, sumOk := impl.WideAdd(v, w)
	neg, negOk := impl.WideNeg(v)
	q, r, divOk := impl.WideDiv(v, n)
	root, rootOk := impl.WideSqrt(v)
	return fmt.Sprint(i, iOk, sum, sumOk, neg, negOk, impl.WideCompare(v, w), impl.WideShift(v, n),
		q, r, divOk, root, rootOk, impl.WideText(v))
}

// everything prints the results of all functions for many arguments.
func everything() []string {
	var lines []string
	list, wide := numbers(), wides()
	for i, a := range list {
		b := list[(i*7+3)%len(list)]
		for _, s := range texts {
			lines = append(lines, basicsOf(a, b, s))
		}
		for k := range int64(130) {
			lines = append(lines, numbersOf(a, b, k-1))
		}
		lines = append(lines, numbersOf(a, b, a), numbersOf(a, b, b))
	}
	for i, v := range wide {
		w := wide[(i*11+5)%len(wide)]
		for _, n := range list {
			lines = append(lines, widesOf(v, w, n))
		}
	}
	return lines
}

func TestEqualArgumentsHaveEqualResults(t *testing.T) {
	want := everything()
	var wait sync.WaitGroup
	for range 4 {
		// Several at once: a result that depended on kept state would differ.
		wait.Go(func() {
			for i, line := range everything() {
				if line != want[i] {
					t.Errorf("got %s, before %s", line, want[i])
					return
				}
			}
		})
	}
	wait.Wait()
}
