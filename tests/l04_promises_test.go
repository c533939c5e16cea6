package tests

import (
	"fmt"
	"testing"

	"loop.example/g01262/impl"
)

// Promise 4: turns, transpositions and changes keep correctness, and three turns lead back.
// Promise 13: changes keep profiles, and inverses of changes lead back.

// turned, transposedScheme and changedBy return what the functions make of schemes for which they
// have to return ErrNone.
func turned(t *testing.T, x impl.Scheme) impl.Scheme {
	t.Helper()
	made, code := impl.TurnScheme(x)
	wantCode(t, fmt.Sprint("TurnScheme of ", x), code, impl.ErrNone)
	return made
}

func transposedScheme(t *testing.T, x impl.Scheme) impl.Scheme {
	t.Helper()
	made, code := impl.TransposeScheme(x)
	wantCode(t, fmt.Sprint("TransposeScheme of ", x), code, impl.ErrNone)
	return made
}

func changedBy(t *testing.T, x impl.Scheme, squares triple) impl.Scheme {
	t.Helper()
	made, code := impl.ChangeScheme(x, squares[0], squares[1], squares[2])
	wantCode(t, fmt.Sprint("ChangeScheme of ", x, " by ", squares), code, impl.ErrNone)
	return made
}

// wantScheme tests that a scheme is the one that it should be, its products in their order.
func wantScheme(t *testing.T, what string, x, made, want impl.Scheme) {
	t.Helper()
	if !sameScheme(made, want) {
		t.Fatalf("%s of %v = %v, want %v", what, x, made, want)
	}
}

// eachCorrect calls do for correct schemes of all primes and sizes.
func eachCorrect(do func(s *sequence, x impl.Scheme)) {
	s := &sequence{}
	eachSize(func(p, n, m, k int64) {
		for _, x := range correctSchemes(p, n, m, k) {
			do(s, x)
		}
	})
}

func TestPromise4TurnsAreCorrect(t *testing.T) {
	eachCorrect(func(s *sequence, x impl.Scheme) {
		wantCorrect(t, "a turned scheme", turned(t, x))
		wantCorrect(t, "a scheme turned twice", turned(t, turned(t, x)))
		wantCorrect(t, "a transposed scheme", transposedScheme(t, x))
	})
}

// TestPromise4TurnsLeadBack has other schemes than correct ones, too.
func TestPromise4TurnsLeadBack(t *testing.T) {
	eachSchemeToMove(func(s *sequence, x impl.Scheme) {
		wantScheme(t, "TurnScheme", x, turned(t, x), expectTurned(x))
		wantScheme(t, "three turns", x, turned(t, turned(t, turned(t, x))), x)
		wantScheme(t, "TransposeScheme", x, transposedScheme(t, x), expectTransposed(x))
		wantScheme(t, "two transpositions", x, transposedScheme(t, transposedScheme(t, x)), x)
		// A turn between transpositions goes the other way round.
		between := transposedScheme(t, turned(t, transposedScheme(t, x)))
		wantScheme(t, "a turn between transpositions", x, between, turned(t, turned(t, x)))
	})
}

func TestPromise4ChangesAreCorrect(t *testing.T) {
	eachCorrect(func(s *sequence, x impl.Scheme) {
		wantScheme(t, "ChangeScheme by unit squares", x, changedBy(t, x, unitTriple(x)), x)
		for range 4 {
			squares := someTriple(s, x)
			made := changedBy(t, x, squares)
			wantScheme(t, fmt.Sprint("ChangeScheme by ", squares), x, made, expectChanged(x, squares))
			wantCorrect(t, "a changed scheme", made)
		}
	})
}

// TestPromise4AllSmallChanges changes schemes of seven and of eight products by all triples.
func TestPromise4AllSmallChanges(t *testing.T) {
	for _, x := range []impl.Scheme{strassen(2), winograd(2), expectStandard(2, 2, 2, 2), expectStandard(2, 1, 2, 2)} {
		for _, squares := range allTriples(x) {
			made := changedBy(t, x, squares)
			wantScheme(t, fmt.Sprint("ChangeScheme by ", squares), x, made, expectChanged(x, squares))
			wantCorrect(t, "a changed scheme", made)
		}
	}
}

// TestPromise4OneAfterTheOther makes turns, transpositions and changes in any order.
func TestPromise4OneAfterTheOther(t *testing.T) {
	eachCorrect(func(s *sequence, x impl.Scheme) {
		made := x
		for range 10 {
			switch s.below(3) {
			case 0:
				made = turned(t, made)
			case 1:
				made = transposedScheme(t, made)
			case 2:
				made = changedBy(t, made, someTriple(s, made))
			}
			wantCorrect(t, "a scheme after many steps", made)
		}
		wantProducts(t, made)
		wantSame(t, "products after many steps", len(made.Products), len(x.Products))
	})
}

// TestPromise13InversesLeadBack takes the inverses from InverseSquare.
func TestPromise13InversesLeadBack(t *testing.T) {
	eachSchemeToMove(func(s *sequence, x impl.Scheme) {
		squares := someTriple(s, x)
		made := changedBy(t, x, squares)
		wantScheme(t, fmt.Sprint("ChangeScheme by ", squares), x, made, expectChanged(x, squares))
		var back triple
		for i, square := range squares {
			inverse, code := impl.InverseSquare(x.Prime, square)
			wantCode(t, fmt.Sprint("InverseSquare of ", square), code, impl.ErrNone)
			back[i] = inverse
		}
		wantScheme(t, fmt.Sprint("ChangeScheme by ", squares, " and back"), x, changedBy(t, made, back), x)
		wantScheme(t, fmt.Sprint("ChangeScheme by ", back, " and back"), x, changedBy(t, changedBy(t, x, back), squares), x)
	})
}

func wantProfile(t *testing.T, x impl.Scheme, want [][]int64) {
	t.Helper()
	profile, code := impl.ProfileOf(x)
	wantCode(t, fmt.Sprint("ProfileOf ", x), code, impl.ErrNone)
	wantSame(t, fmt.Sprint("ProfileOf ", x), profile, want)
}

func TestPromise13ChangesKeepProfiles(t *testing.T) {
	eachSchemeToMove(func(s *sequence, x impl.Scheme) {
		profile := expectProfile(x)
		wantProfile(t, x, profile)
		for range 3 {
			made := changedBy(t, x, someTriple(s, x))
			wantProfile(t, made, profile)
			ranks, code := impl.RanksOf(made)
			wantCode(t, "RanksOf", code, impl.ErrNone)
			wantSame(t, fmt.Sprint("RanksOf a change of ", x), ranks, ranksOf(x))
		}
	})
}

// TestRanksOfTurns tests that ranks move as the factors do in turned and in transposed schemes.
func TestRanksOfTurns(t *testing.T) {
	eachSchemeToMove(func(s *sequence, x impl.Scheme) {
		var afterTurn, afterTransposition [][]int64
		for _, ranks := range ranksOf(x) {
			afterTurn = append(afterTurn, []int64{ranks[1], ranks[2], ranks[0]})
			afterTransposition = append(afterTransposition, []int64{ranks[1], ranks[0], ranks[2]})
		}
		ranks, code := impl.RanksOf(turned(t, x))
		wantCode(t, "RanksOf", code, impl.ErrNone)
		wantSame(t, fmt.Sprint("RanksOf the turned ", x), ranks, afterTurn)
		ranks, code = impl.RanksOf(transposedScheme(t, x))
		wantCode(t, "RanksOf", code, impl.ErrNone)
		wantSame(t, fmt.Sprint("RanksOf the transposed ", x), ranks, afterTransposition)
	})
}

// eachSmall calls do for small schemes of all small sizes, correct ones and others.
func eachSmall(do func(s *sequence, x impl.Scheme)) {
	s := &sequence{}
	for at := range int64(8) {
		n, m, k := at/4+1, at/2%2+1, at%2+1
		list := append(correctSchemes(2, n, m, k), impl.Scheme{Prime: 2, Rows: n, Inner: m, Cols: k})
		q := someProduct(s, 2, n, m, k)
		list = append(list, withKept(list[0], []impl.Product{q}), withKept(list[0], []impl.Product{q, q}))
		for _, products := range []int{2, 4} {
			list = append(list, someScheme(s, 2, n, m, k, products), alikeScheme(s, 2, n, m, k, products))
		}
		for _, x := range list {
			do(s, x)
		}
	}
}

// TestStabiliserNumbers tests that they divide the number of all triples: as often as they go into
// it there is a scheme that is a change.
func TestStabiliserNumbers(t *testing.T) {
	eachSmall(func(s *sequence, x impl.Scheme) {
		triples := allTriples(x)
		different := map[string]bool{}
		for _, squares := range triples {
			different[expectText(expectSorted(changedBy(t, x, squares)))] = true
		}
		number, code := impl.StabiliserNumber(x)
		wantCode(t, "StabiliserNumber", code, impl.ErrNone)
		wantSame(t, fmt.Sprint("StabiliserNumber of ", x), number, expectLeading(x, x))
		wantSame(t, fmt.Sprint("triples for ", x), number*int64(len(different)), int64(len(triples)))
		other, code := impl.StabiliserNumber(changedBy(t, x, someTriple(s, x)))
		wantCode(t, "StabiliserNumber", code, impl.ErrNone)
		wantSame(t, fmt.Sprint("StabiliserNumber of a change of ", x), other, number)
	})
}
