package tests

import (
	"slices"
	"testing"

	"loop.example/g01262/impl"
)

// Promise 3: flips, reductions, splits and plus moves keep the left sides of all equations.

// alikeScheme returns a scheme with many factors that are equal or parallel.
func alikeScheme(s *sequence, p, n, m, k int64, products int) impl.Scheme {
	first, second := someProduct(s, p, n, m, k), someProduct(s, p, n, m, k)
	x := impl.Scheme{Prime: p, Rows: n, Inner: m, Cols: k}
	for len(x.Products) < products {
		var q impl.Product
		for which := range 3 {
			form := *factor(&[]impl.Product{first, second}[s.below(2)], which)
			*factor(&q, which) = times(p, 1+s.below(p-1)*s.below(2), form)
		}
		x.Products = append(x.Products, q)
	}
	return x
}

// schemesToMove returns correct schemes for a prime and sizes, and others.
func schemesToMove(s *sequence, p, n, m, k int64) []impl.Scheme {
	return append(correctSchemes(p, n, m, k),
		someScheme(s, p, n, m, k, 0), someScheme(s, p, n, m, k, 1), someScheme(s, p, n, m, k, 5),
		alikeScheme(s, p, n, m, k, 2), alikeScheme(s, p, n, m, k, 4), alikeScheme(s, p, n, m, k, 7),
	)
}

// eachSchemeToMove calls do for schemes of all primes and sizes.
func eachSchemeToMove(do func(s *sequence, x impl.Scheme)) {
	s := &sequence{}
	eachSize(func(p, n, m, k int64) {
		for _, x := range schemesToMove(s, p, n, m, k) {
			do(s, x)
		}
	})
}

// sameScheme reports what wantSame tests, without writing the schemes.
func sameScheme(x, y impl.Scheme) bool {
	return x.Prime == y.Prime && x.Rows == y.Rows && x.Inner == y.Inner && x.Cols == y.Cols && slices.Equal(x.Products, y.Products)
}

// wantMoved tests that a move returned the scheme that it should return, a scheme with given sums.
func wantMoved(t *testing.T, what string, x, made impl.Scheme, code int64, want impl.Scheme, sums []int64) {
	t.Helper()
	if code != impl.ErrNone || !sameScheme(made, want) {
		t.Fatalf("%s of %v = %v, %d, want %v", what, x, made, code, want)
	}
	if !impl.IsScheme(made) || !slices.Equal(expectSums(made), sums) {
		t.Fatalf("%s of %v = %v, which is no scheme, or has other left sides", what, x, made)
	}
	equal, code := impl.HaveEqualSums(x, made)
	if !equal || code != impl.ErrNone {
		t.Fatalf("HaveEqualSums of %v and %v = %v, %d", x, made, equal, code)
	}
}

func TestPromise3NormalProducts(t *testing.T) {
	eachSchemeToMove(func(s *sequence, x impl.Scheme) {
		made, code := impl.NormalProducts(x)
		wantMoved(t, "NormalProducts", x, made, code, expectNormal(x), expectSums(x))
		again, code := impl.NormalProducts(made)
		wantMoved(t, "NormalProducts again", made, again, code, made, expectSums(x))
	})
}

// TestPromise3Flips makes all flips that there are by all numbers, and takes them back.
func TestPromise3Flips(t *testing.T) {
	eachSchemeToMove(func(s *sequence, x impl.Scheme) {
		sums := expectSums(x)
		for _, flip := range expectFlips(x) {
			for by := int64(1); by < x.Prime; by++ {
				made, code := impl.FlipProducts(x, flip[0], flip[1], flip[2], by)
				wantMoved(t, "FlipProducts", x, made, code, expectFlipped(x, flip[0], flip[1], flip[2], by), sums)
				if len(made.Products) == len(x.Products) {
					back, code := impl.FlipProducts(made, flip[0], flip[1], flip[2], x.Prime-by)
					wantMoved(t, "FlipProducts back", made, back, code, x, sums)
				}
			}
		}
	})
}

func someNumbers(s *sequence, count int) []int64 {
	var numbers []int64
	for len(numbers) < count {
		numbers = append(numbers, s.below(1<<30))
	}
	return numbers
}

func TestPromise3Walks(t *testing.T) {
	eachSchemeToMove(func(s *sequence, x impl.Scheme) {
		for _, count := range []int{0, 1, 2, 20} {
			numbers := someNumbers(s, count)
			made, code := impl.WalkFlips(x, numbers)
			wantMoved(t, "WalkFlips", x, made, code, expectWalk(x, numbers), expectSums(x))
		}
	})
}

// TestPromise3Reductions reduces schemes as they are, after walks, and with products split.
func TestPromise3Reductions(t *testing.T) {
	eachSchemeToMove(func(s *sequence, x impl.Scheme) {
		wantReduced(t, x)
		wantReduced(t, expectWalk(x, someNumbers(s, 9)))
		p := x.Prime
		wantReduced(t, alikeScheme(s, p, x.Rows, x.Inner, x.Cols, 12))
		for range 3 {
			if len(x.Products) > 0 && len(x.Products) < impl.MaxProducts {
				i := s.below(int64(len(x.Products)))
				x = withKept(x, expectSplit(x, i, s.below(3), someForm(s, p, 1)).Products)
			}
		}
		wantReduced(t, x)
	})
}

func wantReduced(t *testing.T, x impl.Scheme) {
	t.Helper()
	sums := expectSums(x)
	made, code := impl.ReduceScheme(x)
	wantMoved(t, "ReduceScheme", x, made, code, expectReduced(x), sums)
	if len(made.Products) > len(x.Products) {
		t.Fatalf("ReduceScheme of %v = %v, which has more products", x, made)
	}
	again, code := impl.ReduceScheme(made)
	wantMoved(t, "ReduceScheme again", made, again, code, made, sums)
}

// TestPromise3Splits splits each product at each factor.
func TestPromise3Splits(t *testing.T) {
	eachSchemeToMove(func(s *sequence, x impl.Scheme) {
		sums := expectSums(x)
		places := []int64{x.Rows * x.Inner, x.Inner * x.Cols, x.Rows * x.Cols}
		for at := range 3 * len(x.Products) {
			i, f := at/3, at%3
			form := someForm(s, x.Prime, places[f])
			made, code := impl.SplitProduct(x, int64(i), int64(f), form)
			if form == *factor(&x.Products[i], f) {
				wantError(t, "SplitProduct", made, code, impl.ErrState)
				continue
			}
			wantMoved(t, "SplitProduct", x, made, code, expectSplit(x, int64(i), int64(f), form), sums)
			if len(made.Products) != len(x.Products)+1 {
				t.Fatalf("SplitProduct of %v = %v, which has not one product more", x, made)
			}
		}
	})
}

// TestPromise3PlusMoves makes the plus moves of all products, in both orders.
func TestPromise3PlusMoves(t *testing.T) {
	eachSchemeToMove(func(s *sequence, x impl.Scheme) {
		sums := expectSums(x)
		for i := range int64(len(x.Products)) {
			for k := range int64(len(x.Products)) {
				if i != k {
					made, code := impl.PlusMove(x, i, k)
					wantMoved(t, "PlusMove", x, made, code, expectPlus(x, i, k), sums)
				}
			}
		}
	})
}

// TestPromise3CorrectSchemesStayCorrect makes many moves one after the other, as long as there are
// not too many products.
func TestPromise3CorrectSchemesStayCorrect(t *testing.T) {
	s := &sequence{}
	eachSize(func(p, n, m, k int64) {
		for _, x := range correctSchemes(p, n, m, k) {
			for range 6 {
				x = orElse(x)(impl.WalkFlips(x, someNumbers(s, 5)))
				count := int64(len(x.Products))
				x = orElse(x)(impl.PlusMove(x, s.below(count), s.below(count)))
				x = orElse(x)(impl.SplitProduct(x, 0, 0, someForm(s, p, n*m)))
				wantCorrect(t, "a scheme after moves", x)
				x = orElse(x)(impl.ReduceScheme(x))
				wantCorrect(t, "a scheme after moves, reduced", x)
			}
		}
	})
}

// orElse returns what takes the results of a move, and returns x if there was an error.
func orElse(x impl.Scheme) func(made impl.Scheme, code int64) impl.Scheme {
	return func(made impl.Scheme, code int64) impl.Scheme {
		if code != impl.ErrNone {
			return x
		}
		return made
	}
}
