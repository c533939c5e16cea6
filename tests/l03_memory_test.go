package tests

import (
	"fmt"
	"slices"
	"testing"

	"loop.example/g01262/impl"
)

// spoilResult overwrites all memory of what a function of chapter 3 returned.
func spoilResult(result any) {
	switch made := result.(type) {
	case impl.Scheme:
		overwrite(made.Products)
	case [][]int64:
		for _, list := range made {
			overwrite(list)
		}
		overwrite(made)
	}
}

// roomySchemes returns schemes of which moves leave out products, or change nothing.
func roomySchemes() []impl.Scheme {
	s := &sequence{}
	return []impl.Scheme{
		someScheme(s, 2, 2, 2, 2, 0), someScheme(s, 3, 2, 2, 2, 1), someScheme(s, 5, 2, 2, 2, 9),
		alikeScheme(s, 2, 2, 2, 2, 8), alikeScheme(s, 3, 2, 2, 2, 8), alikeScheme(s, 5, 2, 2, 2, 29),
		strassen(3), expectStandard(2, 2, 2, 2), expectNormal(strassen(5)), equalProducts(2, 5),
		alikeScheme(s, 3, 2, 2, 2, impl.MaxProducts),
	}
}

func TestMovedSchemesAreNotChangedOrShared(t *testing.T) {
	for _, scheme := range roomySchemes() {
		for _, call := range append(moveCalls(), badMoveCalls()...) {
			x, whole := roomy(scheme)
			before := fmt.Sprint(x, whole)
			result, _ := call.run(x)
			wantSame(t, call.name+": its argument", fmt.Sprint(x, whole), before)
			text := fmt.Sprint(result)
			spoilResult(result)
			wantSame(t, call.name+": its argument after the result was changed", fmt.Sprint(x, whole), before)
			again, _ := call.run(x)
			wantSame(t, call.name+" again", fmt.Sprint(again), text)
		}
	}
}

func TestComparedSchemesAreNotChanged(t *testing.T) {
	for _, first := range roomySchemes() {
		for _, second := range roomySchemes() {
			for _, way := range comparisons {
				x, wholeX := roomy(first)
				y, wholeY := roomy(second)
				before := fmt.Sprint(x, wholeX, y, wholeY)
				equal, code := way.run(x, y)
				wantSame(t, way.name+": its arguments", fmt.Sprint(x, wholeX, y, wholeY), before)
				again, codeAgain := way.run(x, y)
				wantSame(t, way.name+" again", again, equal)
				wantCode(t, way.name+" again", codeAgain, code)
			}
		}
	}
}

func TestNumbersOfWalksAreNotChanged(t *testing.T) {
	for _, x := range roomySchemes() {
		whole := []int64{7, 1 << 40, 0, 3, 1<<63 - 1, 12, 99, 98}
		numbers := whole[:6]
		before := slices.Clone(whole)
		impl.WalkFlips(x, numbers)
		wantSame(t, "WalkFlips: its numbers", whole, before)
	}
}

func TestListsOfFlipsAreApart(t *testing.T) {
	for _, x := range roomySchemes() {
		flips, code := impl.FlipsOf(x)
		wantCode(t, "FlipsOf", code, impl.ErrNone)
		wantRowsApart(t, "FlipsOf", flips)
	}
}
