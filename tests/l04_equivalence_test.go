package tests

import (
	"fmt"
	"slices"
	"testing"

	"loop.example/g01262/impl"
)

// wantEquivalent tests what AreEquivalent tells of two schemes, in both orders.
func wantEquivalent(t *testing.T, x, y impl.Scheme, want bool) {
	t.Helper()
	for _, pair := range [][2]impl.Scheme{{x, y}, {y, x}} {
		equivalent, code := impl.AreEquivalent(pair[0], pair[1])
		wantCode(t, fmt.Sprint("AreEquivalent of ", pair), code, impl.ErrNone)
		if equivalent != want {
			t.Fatalf("AreEquivalent of %v = %v", pair, equivalent)
		}
	}
}

// The examples were found by hand. A change keeps the trace of A B C^T for each product, which tells
// products with the same ranks apart.
func TestEquivalentAsExamples(t *testing.T) {
	for _, example := range []struct {
		first, second string
		want          bool
	}{
		{"2:1x1x1;1*1*1", "2:1x1x1;1*1*1", true},
		{"2:1x1x1;1*1*1", "2:1x1x1;1*1*1+1*1*1", false},
		{"2:2x2x2;", "2:2x2x2;", true},
		{"2:2x2x2;", "2:2x2x2;1000*1000*1000", false},
		{"2:2x1x1;10*1*10", "2:2x1x1;01*1*01", true},
		{"2:2x1x1;10*1*10", "2:2x1x1;10*1*01", false},
		{"2:2x1x1;11*1*01", "2:2x1x1;01*1*11", true},
		{"2:1x2x1;10*10*1", "2:1x2x1;11*01*1", true},
		{"2:1x2x1;10*10*1", "2:1x2x1;11*11*1", false},
		{"2:1x1x2;1*10*10", "2:1x1x2;1*11*10", true},
		{"2:1x1x2;1*01*11", "2:1x1x2;1*10*01", false},
		{"2:2x1x1;10*1*10+01*1*01", "2:2x1x1;01*1*01+10*1*10", true},
		{"2:2x1x1;10*1*10+10*1*10", "2:2x1x1;10*1*10+01*1*01", false},
		{"2:2x1x1;10*1*10+10*1*10+01*1*01", "2:2x1x1;01*1*01+10*1*10+01*1*01", true},
		{"2:2x1x1;10*1*10+10*1*10+01*1*01", "2:2x1x1;10*1*10+10*1*10+10*1*10", false},
	} {
		wantEquivalent(t, parsed(t, example.first), parsed(t, example.second), example.want)
	}
}

// TestEquivalentByOneSquare changes schemes by a single square, in each of the three places, and
// puts the products in another order.
func TestEquivalentByOneSquare(t *testing.T) {
	eachSmall(func(s *sequence, x impl.Scheme) {
		for at, size := range []int64{x.Rows, x.Inner, x.Cols} {
			for _, square := range allInvertible(2, size) {
				squares := unitTriple(x)
				squares[at] = square
				made := expectChanged(x, squares)
				slices.Reverse(made.Products)
				wantEquivalent(t, x, made, true)
			}
		}
	})
}

// TestEquivalentByOneSquareAlone has schemes of which no other change is the same.
func TestEquivalentByOneSquareAlone(t *testing.T) {
	x := parsed(t, "2:2x2x2;1000*1000*1001+0110*1011*0100+0100*1110*1100")
	wantSame(t, "changes that lead to the scheme itself", expectLeading(x, x), int64(1))
	for at := range 3 {
		for _, square := range allInvertible(2, 2) {
			squares := unitTriple(x)
			squares[at] = square
			made := expectChanged(x, squares)
			wantSame(t, "changes that lead to the same", expectLeading(x, made), int64(1))
			wantEquivalent(t, x, made, true)
		}
	}
}

// TestEquivalentOfSomeSchemes compares schemes of few products, of which many are not equivalent.
func TestEquivalentOfSomeSchemes(t *testing.T) {
	s := &sequence{}
	told := map[bool]int{}
	for range 60 {
		n, m, k := 1+s.below(2), 1+s.below(2), 1+s.below(2)
		products := int(1 + s.below(2))
		x, y := someScheme(s, 2, n, m, k, products), someScheme(s, 2, n, m, k, products)
		want := expectLeading(x, y) > 0
		wantEquivalent(t, x, y, want)
		told[want]++
	}
	wantSame(t, "both are told often", min(told[true], told[false]) > 5, true)
}

// TestEquivalentOfSevenProducts tells schemes of seven products from those of eight, and both of the
// seven by the changes that lead from one to the other.
func TestEquivalentOfSevenProducts(t *testing.T) {
	s := &sequence{}
	x, y := strassen(2), winograd(2)
	wantEquivalent(t, x, y, expectLeading(x, y) > 0)
	wantEquivalent(t, x, expectStandard(2, 2, 2, 2), false)
	wantEquivalent(t, x, expectTurned(x), expectLeading(x, expectTurned(x)) > 0)
	for range 5 {
		wantEquivalent(t, x, changedBy(t, x, someTriple(s, x)), true)
		wantEquivalent(t, y, changedBy(t, changedBy(t, y, someTriple(s, y)), someTriple(s, y)), true)
	}
}

// TestEquivalentAllButOneProduct leaves out a product, and puts another one twice in its place.
func TestEquivalentAllButOneProduct(t *testing.T) {
	eachSmall(func(s *sequence, x impl.Scheme) {
		if len(x.Products) < 2 {
			return
		}
		less := withKept(x, x.Products[1:])
		wantEquivalent(t, x, less, false)
		twice := withKept(x, append(slices.Clone(less.Products), less.Products[0]))
		wantEquivalent(t, x, twice, expectLeading(x, twice) > 0)
	})
}

func TestStabilisersAsExamples(t *testing.T) {
	for text, want := range map[string]int64{
		"2:1x1x1;":                1,
		"2:1x1x1;1*1*1":           1,
		"2:2x1x1;":                6,
		"2:1x2x2;":                36,
		"2:2x2x2;":                216,
		"2:2x1x1;10*1*10":         1,
		"2:2x1x1;10*1*01":         2,
		"2:2x1x1;10*1*10+01*1*01": 2,
		"2:1x2x1;10*10*1+10*10*1": 1,
		"2:1x2x1;10*01*1":         2,
		"2:1x1x2;1*10*01":         2,
		"2:1x1x2;1*10*10+1*11*01": 1,
	} {
		number, code := impl.StabiliserNumber(parsed(t, text))
		wantCode(t, "StabiliserNumber", code, impl.ErrNone)
		wantSame(t, "StabiliserNumber of "+text, number, want)
	}
	// The squares with one number other than 0 in each row and column keep a standard scheme.
	for at := range int64(8) {
		n, m, k := at/4+1, at/2%2+1, at%2+1
		number, code := impl.StabiliserNumber(expectStandard(2, n, m, k))
		wantCode(t, "StabiliserNumber", code, impl.ErrNone)
		wantSame(t, fmt.Sprint("StabiliserNumber of the standard scheme of ", n, m, k), number, n*m*k)
	}
}

// TestFullSmallSchemes takes schemes with exactly MaxProducts products, in two of them all equal.
func TestFullSmallSchemes(t *testing.T) {
	s := &sequence{}
	one := someScheme(s, 2, 2, 2, 2, 1)
	for _, x := range []impl.Scheme{
		someScheme(s, 2, 2, 2, 2, impl.MaxProducts), withKept(one, slices.Repeat(one.Products, impl.MaxProducts)), equalProducts(2, impl.MaxProducts),
	} {
		made := changedBy(t, x, someTriple(s, x))
		wantEquivalent(t, x, made, true)
		number, code := impl.StabiliserNumber(x)
		wantCode(t, "StabiliserNumber", code, impl.ErrNone)
		wantSame(t, fmt.Sprint("StabiliserNumber of ", x), number, expectLeading(x, x))
	}
}
