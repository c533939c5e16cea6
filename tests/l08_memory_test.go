package tests

import (
	"fmt"
	"slices"
	"testing"

	"loop.example/g01262/impl"
)

// roomyBorder returns a copy of x whose list has room behind it, filled with twigs of its own, and the
// whole list with this room.
func roomyBorder(x impl.Border) (impl.Border, []impl.Twig) {
	mark := impl.Twig{A: impl.Series{{77}}, B: impl.Series{{88}}, C: impl.Series{{99}}}
	whole := append(slices.Clone(x.Twigs), mark, mark, mark)
	x.Twigs = whole[:len(x.Twigs)]
	return x, whole
}

// spoilBorders overwrites all memory of what a function of chapter 8 returned, and tests that no two lists
// of it share theirs.
func spoilBorders(t *testing.T, what string, result any) {
	t.Helper()
	switch made := result.(type) {
	case impl.Border:
		overwrite(made.Twigs)
	case impl.Scheme:
		overwrite(made.Products)
	case [][]int64:
		wantRowsApart(t, what, made)
		overwrite(made)
	}
}

// roomyBorders returns border schemes without twigs, with some, and with most of them.
func roomyBorders() []impl.Border {
	s := &sequence{}
	var list []impl.Border
	for _, p := range primes {
		for _, twigs := range []int{0, 1, 2, 7, impl.MaxProducts - 1, impl.MaxProducts} {
			list = append(list, someBorder(s, p, 2, 2, 2, twigs, 2), risen(s, someScheme(s, p, 1, 3, 2, twigs), 4, false))
		}
		list = append(list, fullBorder(p, 3, 1, 2, 2), expectBorderOf(strassen(p)), bini(p))
	}
	return append(list, impl.Border{}, fullBorder(2, 1, 1, 1, impl.MaxProducts+1))
}

func TestBordersAreNotChangedOrShared(t *testing.T) {
	for _, border := range roomyBorders() {
		for _, call := range append(borderCalls(), badBorderCalls()...) {
			x, whole := roomyBorder(border)
			before := slices.Clone(whole)
			result, code := call.run(x)
			wantTwigs(t, call.name+": its argument", whole, before)
			text := fmt.Sprint(result)
			spoilBorders(t, call.name, result)
			wantTwigs(t, call.name+": its argument after the result was changed", whole, before)
			again, codeAgain := call.run(x)
			wantSame(t, call.name+" again", fmt.Sprint(again), text)
			wantCode(t, call.name+" again", codeAgain, code)
		}
	}
}

func wantTwigs(t *testing.T, what string, twigs, want []impl.Twig) {
	t.Helper()
	if !slices.Equal(twigs, want) {
		t.Fatalf("%s = %v, want %v", what, twigs, want)
	}
}

// TestBordersThatStayAreNew tests that what stays as it is has a list of its own.
func TestBordersThatStayAreNew(t *testing.T) {
	for _, border := range roomyBorders() {
		if !impl.IsBorder(border) {
			continue
		}
		x, whole := roomyBorder(border)
		before := slices.Clone(whole)
		made := stretch(t, x, 1)
		overwrite(made.Twigs)
		wantTwigs(t, "StretchBorder by 1: its argument after the result was changed", whole, before)
		for range 2 {
			powers, code := impl.LowestPowers(x)
			wantCode(t, "LowestPowers", code, impl.ErrNone)
			wantRowsApart(t, "LowestPowers", powers)
		}
	}
}

func TestSchemesOfBordersAreNotChangedOrShared(t *testing.T) {
	for _, scheme := range roomySquares() {
		x, whole := roomy(scheme)
		before := slices.Clone(whole)
		made := borderOf(t, x)
		text := spoil(made.Twigs)
		wantSame(t, "BorderOfScheme: its argument", slices.Equal(whole, before), true)
		wantSame(t, "BorderOfScheme again", fmt.Sprint(borderOf(t, x).Twigs), text)
	}
}

// TestRowsOfPowersAreAppendedTo tests that nothing that is put behind a row comes into the next one.
func TestRowsOfPowersAreAppendedTo(t *testing.T) {
	x := someBorder(&sequence{}, 3, 2, 2, 2, 9, 3)
	powers, code := impl.LowestPowers(x)
	wantCode(t, "LowestPowers", code, impl.ErrNone)
	for i := range powers {
		powers[i] = append(powers[i], 1000)[:len(powers[i])]
	}
	wantSame(t, "LowestPowers", powers, expectLowest(x))
}

// TestBorderCallsAgain tests that no call depends on those before it.
func TestBorderCallsAgain(t *testing.T) {
	s := &sequence{}
	for _, x := range []impl.Border{bini(2), bini(5), someBorder(s, 3, 2, 2, 2, 5, 2), fullBorder(5, 1, 1, 2, impl.MaxProducts)} {
		for _, call := range borderCalls() {
			result, code := call.run(x)
			for _, p := range primes {
				impl.OrderOfBorder(someBorder(s, p, 3, 3, 3, 4, 3))
				impl.ExactScheme(fullBorder(p, 2, 2, 2, 2), 3)
			}
			again, codeAgain := call.run(x)
			wantSame(t, call.name+" again", again, result)
			wantCode(t, call.name+" again", codeAgain, code)
		}
	}
}
