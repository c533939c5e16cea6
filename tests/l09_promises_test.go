package tests

import (
	"fmt"
	"slices"
	"testing"

	"loop.example/g01262/impl"
)

// Promise 9: methods make what their tensors make, and none has fewer products than the bound.
// Promise 17: tensors of Kronecker products and turns of methods are those of the tensors.

func TestPromise9MethodsMakeWhatTensorsMake(t *testing.T) {
	eachMethod(func(s *sequence, m impl.Method) {
		x := tensorOfMethod(t, m)
		wantFits(t, m, x, true)
		second := someLists(s, m.Prime, m.J)
		for at, u := range someLists(s, m.Prime, m.I) {
			wantMade(t, m, x, u, second[at])
			wantMade(t, m, x, u, second[3])
			wantMade(t, m, x, someList(s, m.Prime, m.I), second[at])
		}
	})
}

// TestPromise9AllLists takes all lists, for methods with short sides.
func TestPromise9AllLists(t *testing.T) {
	s := &sequence{}
	for _, p := range primes {
		list := []impl.Method{karatsuba(p), expectMethodTurn(karatsuba(p)), someMethod(s, p, [3]int64{2, 1, 3}, 4), someMethod(s, p, [3]int64{1, 3, 9}, 9), bareMethod(p, [3]int64{2, 2, 2})}
		if p == 2 {
			list = append(list, expectSchemeMethod(strassen(p)), someMethod(s, p, [3]int64{5, 4, 3}, 12))
		}
		for _, m := range list {
			x := tensorOfMethod(t, m)
			for _, u := range allColumns(p, m.I) {
				for _, v := range allColumns(p, m.J) {
					wantMade(t, m, x, u, v)
				}
			}
		}
	}
}

// eachThinTensor calls do for tensors of all primes, most of which have plain methods.
func eachThinTensor(t *testing.T, do func(s *sequence, x impl.Tensor)) {
	t.Helper()
	s := &sequence{}
	for _, p := range primes {
		list := append(tensorsOfSchemes(t, p), knownTensors(s, p)...)
		for _, sides := range someSides {
			list = append(list, thinTensors(s, p, sides)...)
		}
		for _, x := range list {
			do(s, x)
		}
	}
}

func TestPromise9PlainMethodsFit(t *testing.T) {
	plain, limited := 0, 0
	eachThinTensor(t, func(s *sequence, x impl.Tensor) {
		m, fits := plainOfTensor(t, x)
		if !fits {
			limited++
			return
		}
		plain++
		wantFits(t, m, x, true)
		wantTensor(t, "TensorOfMethod of the plain method", x, tensorOfMethod(t, m), impl.ErrNone, x)
		for at, u := range someLists(s, x.Prime, x.I) {
			wantMade(t, m, x, u, someLists(s, x.Prime, x.J)[at])
		}
	})
	if plain < 1000 || limited < 50 {
		t.Fatalf("only %d tensors had plain methods, and %d had none", plain, limited)
	}
}

// wantNotBelow tests that a method has as many products as the bound of its tensor, or more.
func wantNotBelow(t *testing.T, m impl.Method) {
	t.Helper()
	bound := boundOf(t, tensorOfMethod(t, m))
	if int64(len(m.Products)) < bound {
		t.Fatalf("the method %v has %d products, but the bound %d", m, len(m.Products), bound)
	}
}

func TestPromise9NoFewerProductsThanTheBound(t *testing.T) {
	eachMethod(func(s *sequence, m impl.Method) { wantNotBelow(t, m) })
	s := &sequence{1}
	for _, p := range primes {
		for _, sides := range someSides {
			for products := range 10 {
				wantNotBelow(t, someMethod(s, p, sides, products))
			}
		}
	}
}

// TestPromise9MadeMethods has methods that the program makes of others, one after the other.
func TestPromise9MadeMethods(t *testing.T) {
	made := 0
	pairsOfMethods(func(s *sequence, m, n impl.Method) {
		if s.below(4) > 0 {
			return
		}
		both, fits := kronecker(t, m, turnOfMethod(t, n))
		if !fits {
			return
		}
		made++
		both = turnOfMethod(t, both)
		wantNotBelow(t, both)
		wantMade(t, both, tensorOfMethod(t, both), someList(s, m.Prime, both.I), someList(s, m.Prime, both.J))
	})
	if made < 500 {
		t.Fatalf("only %d methods were made of others", made)
	}
}

// TestPromise9BoundsThatAreMet has methods with exactly as many products as their bounds.
func TestPromise9BoundsThatAreMet(t *testing.T) {
	for _, p := range primes {
		eachDiagonal(p, func(m impl.Method, length int64) {
			x := tensorOfMethod(t, m)
			wantSame(t, "BoundOf a diagonal", boundOf(t, x), length)
			wantNotBelow(t, m)
		})
		wantSame(t, "BoundOf Karatsuba's", boundOf(t, tensorOfMethod(t, karatsuba(p))), int64(3))
		wantNotBelow(t, karatsuba(p))
	}
}

// eachDiagonal calls do for methods with a single 1 in all forms, at each place once.
func eachDiagonal(p int64, do func(m impl.Method, length int64)) {
	for length := int64(1); length <= impl.MaxSide; length++ {
		m := bareMethod(p, [3]int64{length, length, length})
		for at := range length {
			var q impl.Product
			q.A[at], q.B[at], q.C[at] = 1, 1, byte(p-1)
			m.Products = append(m.Products, q)
		}
		do(m, length)
	}
}

func TestPromise9MethodsOfCorrectSchemes(t *testing.T) {
	eachCorrect(func(s *sequence, x impl.Scheme) {
		for _, y := range []impl.Scheme{x, expectChanged(x, someTriple(s, x)), expectNormal(x)} {
			m := methodOfScheme(t, y)
			full := matrixTensor(t, y.Prime, y.Rows, y.Inner, y.Cols)
			wantFits(t, m, full, true)
			wantTensor(t, "TensorOfMethod", m, tensorOfMethod(t, m), impl.ErrNone, full)
			wantNotBelow(t, m)
		}
	})
}

// TestPromise9MethodsOfOtherSchemes tests that methods fit the matrix tensor only if the schemes are correct,
// and that they have the tensors of the schemes.
func TestPromise9MethodsOfOtherSchemes(t *testing.T) {
	eachSchemeToMove(func(s *sequence, x impl.Scheme) {
		m := methodOfScheme(t, x)
		wantFits(t, m, matrixTensor(t, x.Prime, x.Rows, x.Inner, x.Cols), len(expectWrong(x)) == 0)
		wantFits(t, m, tensorOf(t, x), true)
	})
}

// TestPromise9MethodsOfSchemesMakeProducts tests that what they make are the rows of what schemes make.
func TestPromise9MethodsOfSchemesMakeProducts(t *testing.T) {
	eachSchemeToMove(func(s *sequence, x impl.Scheme) {
		left, right := someMatrix(s, x.Prime, x.Rows, x.Inner), someMatrix(s, x.Prime, x.Inner, x.Cols)
		made, code := impl.MakeList(methodOfScheme(t, x), slices.Concat(left...), slices.Concat(right...))
		product, _ := impl.MakeProduct(x, left, right)
		wantList(t, fmt.Sprint("MakeList of the method of ", x), made, code, slices.Concat(product...))
	})
}

func TestPromise17TensorsOfKroneckerProducts(t *testing.T) {
	made, limited := 0, 0
	pairsOfMethods(func(s *sequence, m, n impl.Method) {
		both, fits := kronecker(t, m, n)
		if !fits {
			limited++
			return
		}
		made++
		first, second := tensorOfMethod(t, m), tensorOfMethod(t, n)
		want, code := impl.KroneckerTensors(first, second)
		wantTensor(t, "KroneckerTensors", first, want, code, expectKronecker(first, second))
		wantTensor(t, fmt.Sprint("TensorOfMethod of the Kronecker product of ", n, " and"), m, tensorOfMethod(t, both), impl.ErrNone, want)
		wantFits(t, both, want, true)
	})
	if made < 1000 || limited < 1000 {
		t.Fatalf("only %d Kronecker products were made, and %d were too long", made, limited)
	}
}

// TestPromise17ListsOfKroneckerProducts tests that they make of Kronecker products of lists those of what both
// methods make.
func TestPromise17ListsOfKroneckerProducts(t *testing.T) {
	pairsOfMethods(func(s *sequence, m, n impl.Method) {
		both, fits := expectMethodKronecker(m, n)
		if !fits {
			return
		}
		p := m.Prime
		u, v, u2, v2 := someList(s, p, m.I), someList(s, p, m.J), someList(s, p, n.I), someList(s, p, n.J)
		made, code := impl.MakeList(both, kroneckerList(p, u, u2), kroneckerList(p, v, v2))
		want := kroneckerList(p, expectMadeList(m, u, v), expectMadeList(n, u2, v2))
		wantList(t, fmt.Sprint("MakeList of the Kronecker product of ", m, " and ", n), made, code, want)
	})
}

func kroneckerList(p int64, first, second []int64) []int64 {
	var made []int64
	for _, number := range first {
		made = append(made, multiplied(p, number, second)...)
	}
	return made
}

func TestPromise17TensorsOfTurns(t *testing.T) {
	eachMethod(func(s *sequence, m impl.Method) {
		x, turn := tensorOfMethod(t, m), turnOfMethod(t, m)
		want := turnOf(t, x)
		wantTensor(t, "TensorOfMethod of the turn", m, tensorOfMethod(t, turn), impl.ErrNone, want)
		wantFits(t, turn, want, true)
	})
}

func TestPromise17ThreeTurnsLeadBack(t *testing.T) {
	eachMethod(func(s *sequence, m impl.Method) {
		wantMethod(t, "three turns", turnOfMethod(t, turnOfMethod(t, turnOfMethod(t, m))), impl.ErrNone, m)
	})
}

// TestPromise17PlainMethods tests that Kronecker products and turns of plain methods fit those of the tensors.
func TestPromise17PlainMethods(t *testing.T) {
	s := &sequence{}
	for _, p := range primes {
		list := append(knownTensors(s, p), thinTensors(s, p, [3]int64{2, 3, 1})...)
		for _, x := range append(list, thinTensors(s, p, [3]int64{3, 3, 3})...) {
			m, fits := plainOfTensor(t, x)
			if !fits {
				continue
			}
			wantFits(t, turnOfMethod(t, m), expectTurn(x), true)
			for _, y := range []impl.Tensor{expectPolynomial(p, 2, 2), expectRest(p, []int64{1, 1}), expectTriangular(p, 1), x} {
				n, _ := plainOfTensor(t, y)
				if both, fits := kronecker(t, m, n); fits {
					wantFits(t, both, expectKronecker(x, y), true)
				}
			}
		}
	}
}

// TestPromise17TurnsOfKroneckerProducts tests that both can be done one after the other in any order.
func TestPromise17TurnsOfKroneckerProducts(t *testing.T) {
	pairsOfMethods(func(s *sequence, m, n impl.Method) {
		both, fits := expectMethodKronecker(m, n)
		if !fits {
			return
		}
		made, code := impl.KroneckerMethods(turnOfMethod(t, m), turnOfMethod(t, n))
		wantMethod(t, "KroneckerMethods of turns", made, code, turnOfMethod(t, both))
	})
}
