package tests

import (
	"fmt"
	"testing"

	"loop.example/g01262/impl"
)

func TestSymmetricSchemesAreNotChangedOrShared(t *testing.T) {
	for _, scheme := range roomySchemes() {
		for _, call := range append(symmetryCalls(), badSymmetryCalls()...) {
			x, whole := roomy(scheme)
			before := fmt.Sprint(x, whole)
			result, _ := call.run(x)
			wantSame(t, call.name+": its argument", fmt.Sprint(x, whole), before)
			text := fmt.Sprint(result)
			spoilResult(result)
			wantSame(t, call.name+": its argument after the result was changed", fmt.Sprint(x, whole), before)
			again, _ := call.run(x)
			wantSame(t, call.name+" again", fmt.Sprint(again), text)
		}
	}
}

func TestEquivalentSchemesAreNotChanged(t *testing.T) {
	for _, first := range roomySchemes() {
		for _, second := range roomySchemes() {
			x, wholeX := roomy(first)
			y, wholeY := roomy(second)
			before := fmt.Sprint(x, wholeX, y, wholeY)
			equivalent, code := impl.AreEquivalent(x, y)
			wantSame(t, "AreEquivalent: its arguments", fmt.Sprint(x, wholeX, y, wholeY), before)
			again, codeAgain := impl.AreEquivalent(x, y)
			wantSame(t, "AreEquivalent again", again, equivalent)
			wantCode(t, "AreEquivalent again", codeAgain, code)
		}
	}
}

// TestSquaresAreNotChangedOrShared has unit squares, which are their own inverses, among others.
func TestSquaresAreNotChangedOrShared(t *testing.T) {
	s := &sequence{}
	for _, p := range primes {
		for n := int64(1); n <= impl.MaxSize; n++ {
			for _, rows := range [][][]int64{unit(n), someInvertible(s, p, n), zeros(n, n), someMatrix(s, p, n, n)} {
				square, tell := roomyMatrix(rows)
				before := tell()
				impl.IsInvertible(p, square)
				wantSame(t, "IsInvertible: its argument", tell(), before)
				inverse, code := impl.InverseSquare(p, square)
				wantSame(t, "InverseSquare: its argument", tell(), before)
				text := fmt.Sprint(inverse)
				wantRowsApart(t, "InverseSquare", inverse)
				overwrite(inverse)
				wantSame(t, "InverseSquare: its argument after its result was changed", tell(), before)
				again, codeAgain := impl.InverseSquare(p, square)
				wantSame(t, "InverseSquare again", fmt.Sprint(again), text)
				wantCode(t, "InverseSquare again", codeAgain, code)
			}
		}
	}
}

func TestSquaresOfChangesAreNotChanged(t *testing.T) {
	eachSchemeToMove(func(s *sequence, x impl.Scheme) {
		var squares triple
		var tells []func() string
		for i, rows := range someTriple(s, x) {
			square, tell := roomyMatrix(rows)
			squares[i], tells = square, append(tells, tell)
		}
		before := tells[0]() + tells[1]() + tells[2]()
		made := changedBy(t, x, squares)
		overwrite(made.Products)
		wantSame(t, "ChangeScheme: its squares", tells[0]()+tells[1]()+tells[2](), before)
	})
}

func TestOneSquareInThreePlaces(t *testing.T) {
	s := &sequence{}
	for _, p := range primes {
		x, square := strassen(p), someInvertible(s, p, 2)
		made, code := impl.ChangeScheme(x, square, square, square)
		wantCode(t, "ChangeScheme", code, impl.ErrNone)
		wantScheme(t, "ChangeScheme by one square", x, made, expectChanged(x, triple{square, square, square}))
	}
}

func TestRowsOfProfilesAreApart(t *testing.T) {
	for _, x := range roomySchemes() {
		profile, code := impl.ProfileOf(x)
		wantCode(t, "ProfileOf", code, impl.ErrNone)
		wantRowsApart(t, "ProfileOf", profile)
	}
}
