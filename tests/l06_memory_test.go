package tests

import (
	"fmt"
	"testing"

	"loop.example/g01262/impl"
)

// spoilCost overwrites the list that a function of chapter 6 returned, and the room behind it.
func spoilCost(result any) {
	if list, ok := result.([]int64); ok {
		overwrite(list)
	}
}

// roomySquares returns square schemes of both sizes, and some that are none.
func roomySquares() []impl.Scheme {
	s := &sequence{}
	list := roomySchemes()
	for _, p := range primes {
		for n := int64(1); n <= impl.MaxSize; n++ {
			list = append(list, someScheme(s, p, n, n, n, 0), someScheme(s, p, n, n, n, 5), someScheme(s, p, n, n, n, impl.MaxProducts))
		}
	}
	return list
}

func TestSchemesOfCostsAreNotChangedOrShared(t *testing.T) {
	calls := append(append(costCalls(), badCostCalls()...), limitedCalls()...)
	for _, scheme := range roomySquares() {
		for _, call := range calls {
			x, whole := roomy(scheme)
			before := fmt.Sprint(x, whole)
			result, code := call.run(x)
			wantSame(t, call.name+": its argument", fmt.Sprint(x, whole), before)
			text := fmt.Sprint(result)
			spoilCost(result)
			wantSame(t, call.name+": its argument after the result was changed", fmt.Sprint(x, whole), before)
			again, codeAgain := call.run(x)
			wantSame(t, call.name+" again", fmt.Sprint(again), text)
			wantCode(t, call.name+" again", codeAgain, code)
		}
	}
}

func TestSchemesOfExponentsAreNotChanged(t *testing.T) {
	for _, first := range roomySquares() {
		for _, second := range roomySquares() {
			x, wholeX := roomy(first)
			y, wholeY := roomy(second)
			before := fmt.Sprint(x, wholeX, y, wholeY)
			compared, code := impl.CompareExponents(x, y)
			wantSame(t, "CompareExponents: its arguments", fmt.Sprint(x, wholeX, y, wholeY), before)
			again, codeAgain := impl.CompareExponents(x, y)
			wantSame(t, "CompareExponents again", again, compared)
			wantCode(t, "CompareExponents again", codeAgain, code)
		}
	}
}

// TestCostsBehindCostsTooGreat tests that nothing of a call with a cost that is too great comes into the
// next one.
func TestCostsBehindCostsTooGreat(t *testing.T) {
	eachSquare(func(s *sequence, x impl.Scheme) {
		for _, call := range costCalls() {
			result, code := call.run(x)
			for _, other := range limitedCalls() {
				other.run(fullScheme(2, 3, 30))
			}
			again, codeAgain := call.run(x)
			wantSame(t, call.name+" again", again, result)
			wantCode(t, call.name+" again", codeAgain, code)
		}
	})
}
