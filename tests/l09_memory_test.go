package tests

import (
	"fmt"
	"runtime"
	"slices"
	"testing"

	"loop.example/g01262/impl"
)

// roomyMethod returns a copy of m whose list has room behind it, filled with products of its own, and the whole
// list with this room.
func roomyMethod(m impl.Method) (impl.Method, []impl.Product) {
	mark := impl.Product{A: impl.Form{77}, B: impl.Form{88}, C: impl.Form{99}}
	whole := append(slices.Clone(m.Products), mark, mark, mark)
	m.Products = whole[:len(m.Products)]
	return m, whole
}

// roomyList returns a copy of a list with room behind it, and the whole list with this room.
func roomyList(list []int64) ([]int64, []int64) {
	whole := append(slices.Clone(list), 77, 88, 99)
	return whole[:len(list)], whole
}

// spoilMethods overwrites all memory of what a function of chapter 9 returned.
func spoilMethods(result any) {
	switch made := result.(type) {
	case impl.Method:
		overwrite(made.Products)
	case impl.Tensor:
		overwrite(made.Numbers)
	case []int64:
		overwrite(made)
	}
}

// roomyMethods returns methods for which the calls of methodCalls are good, and some for which not all of them
// are, because of their primes, their sides or their products.
func roomyMethods() []impl.Method {
	s := &sequence{}
	list := drawnMethods(s, 3, [3]int64{2, 2, 2})
	for _, p := range primes {
		list = append(list, someMethod(s, p, [3]int64{2, 2, 2}, 5), karatsuba(p), expectSchemeMethod(strassen(p)), someMethod(s, p, [3]int64{9, 9, 9}, impl.MaxProducts))
	}
	return append(list, impl.Method{}, fullMethod(2, [3]int64{1, 1, 1}, impl.MaxProducts+1))
}

func TestMethodsAreNotChangedOrShared(t *testing.T) {
	for _, method := range roomyMethods() {
		for _, call := range append(methodCalls(), badMethodCalls()...) {
			m, whole := roomyMethod(method)
			before := slices.Clone(whole)
			result, code := call.run(m)
			wantProductsKept(t, call.name+": its argument", whole, before)
			text := fmt.Sprint(result)
			spoilMethods(result)
			wantProductsKept(t, call.name+": its argument after the result was changed", whole, before)
			again, codeAgain := call.run(m)
			wantSame(t, call.name+" again", fmt.Sprint(again), text)
			wantCode(t, call.name+" again", codeAgain, code)
		}
	}
}

func wantProductsKept(t *testing.T, what string, products, want []impl.Product) {
	t.Helper()
	if !slices.Equal(products, want) {
		t.Fatalf("%s = %v, want %v", what, products, want)
	}
}

func TestPairsOfMethodsAreNotChangedOrShared(t *testing.T) {
	s := &sequence{}
	one := makeMethod(3, [3]int64{1, 1, 1}, "1 1 1")
	for _, first := range append(roomyMethods(), one) {
		for _, second := range []impl.Method{one, bareMethod(3, [3]int64{1, 1, 1}), someMethod(s, 3, [3]int64{1, 2, 3}, 3), first} {
			m, wholeM := roomyMethod(first)
			n, wholeN := roomyMethod(second)
			beforeM, beforeN := slices.Clone(wholeM), slices.Clone(wholeN)
			made, code := impl.KroneckerMethods(m, n)
			text := spoil(made.Products)
			wantProductsKept(t, "KroneckerMethods: its first argument", wholeM, beforeM)
			wantProductsKept(t, "KroneckerMethods: its second argument", wholeN, beforeN)
			again, codeAgain := impl.KroneckerMethods(m, n)
			wantSame(t, "KroneckerMethods again", spoil(again.Products), text)
			wantCode(t, "KroneckerMethods again", codeAgain, code)
		}
	}
}

// TestTensorsOfMethodsAreNotChangedOrShared has the functions of chapter 9 with a tensor.
func TestTensorsOfMethodsAreNotChangedOrShared(t *testing.T) {
	for _, tensor := range roomyTensors() {
		for _, call := range bilinearTensorCalls() {
			x, whole := roomyTensor(tensor)
			before := slices.Clone(whole)
			result, code := call.run(x)
			text := fmt.Sprint(result)
			spoilMethods(result)
			wantList(t, call.name+": its argument", whole, impl.ErrNone, before)
			again, codeAgain := call.run(x)
			wantSame(t, call.name+" again", fmt.Sprint(again), text)
			wantCode(t, call.name+" again", codeAgain, code)
		}
	}
}

// TestListsToMakeOfAreNotChangedOrShared has the lists u and v, also one list in both places.
func TestListsToMakeOfAreNotChangedOrShared(t *testing.T) {
	s := &sequence{}
	for _, p := range primes {
		for _, sides := range [][3]int64{{2, 2, 2}, {3, 3, 3}, {1, 4, 4}, {9, 9, 9}, {5, 2, 1}} {
			for _, m := range drawnMethods(s, p, sides) {
				u, wholeU := roomyList(someList(s, p, m.I))
				v, wholeV := roomyList(someList(s, p, m.J))
				if m.I == m.J && s.below(2) == 0 {
					v, wholeV = u, wholeU
				}
				before := fmt.Sprint(wholeU, wholeV)
				x := expectMethodTensor(m)
				wantMade(t, m, x, u, v)
				overwrite(first(impl.MakeList(m, u, v)))
				overwrite(first(impl.ValueOfTensor(x, u, v)))
				wantSame(t, "lists after what is made of them was changed", fmt.Sprint(wholeU, wholeV), before)
				wantMade(t, m, x, u, v)
			}
		}
	}
}

func TestListsOfRestsAreNotChangedOrShared(t *testing.T) {
	s := &sequence{}
	for _, p := range primes {
		for d := int64(1); d <= impl.MaxRest; d++ {
			list, whole := roomyList(someList(s, p, d))
			before := slices.Clone(whole)
			text := spoil(first(impl.RestTensor(p, list)).Numbers)
			wantList(t, "RestTensor: its list", whole, impl.ErrNone, before)
			wantSame(t, "RestTensor again", spoil(first(impl.RestTensor(p, list)).Numbers), text)
		}
	}
}

func TestSchemesOfMethodsAreNotChangedOrShared(t *testing.T) {
	for _, scheme := range roomySchemes() {
		x, whole := roomy(scheme)
		before := slices.Clone(whole)
		text := spoil(methodOfScheme(t, x).Products)
		wantProductsKept(t, "MethodOfScheme: its argument", whole, before)
		wantSame(t, "MethodOfScheme again", spoil(methodOfScheme(t, x).Products), text)
	}
}

// TestKnownMethodsAreNew changes what is returned for numbers alone, and calls again.
func TestKnownMethodsAreNew(t *testing.T) {
	for _, p := range primes {
		for name, call := range map[string]func() string{
			"KaratsubaMethod":  func() string { return spoil(first(impl.KaratsubaMethod(p)).Products) },
			"PolynomialTensor": func() string { return spoil(first(impl.PolynomialTensor(p, 3, 4)).Numbers) },
			"TriangularTensor": func() string { return spoil(first(impl.TriangularTensor(p, 3)).Numbers) },
		} {
			wantSame(t, name+" again", call(), call())
		}
	}
}

// TestMethodCallsAgain tests that no call depends on those before it.
func TestMethodCallsAgain(t *testing.T) {
	s := &sequence{}
	for _, m := range roomyMethods() {
		for _, call := range methodCalls() {
			result, code := call.run(m)
			for _, p := range primes {
				impl.TensorOfMethod(someMethod(s, p, [3]int64{9, 8, 7}, 9))
				impl.PlainMethod(makeTensor(p, [3]int64{9, 9, 9}, func(i, j, k int64) int64 { return 1 }))
				impl.KroneckerMethods(karatsuba(p), karatsuba(p))
			}
			again, codeAgain := call.run(m)
			wantSame(t, call.name+" again", again, result)
			wantCode(t, call.name+" again", codeAgain, code)
		}
	}
}

// TestBoundsLeaveNoGoroutines tests that all goroutines have ended behind calls.
func TestBoundsLeaveNoGoroutines(t *testing.T) {
	before := runtime.NumGoroutine()
	eachMethod(func(s *sequence, m impl.Method) {
		if s.below(10) == 0 {
			impl.BoundOf(expectMethodTensor(m))
		}
	})
	wantGoroutines(t, before)
}
