package tests

import (
	"fmt"
	"slices"
	"testing"

	"loop.example/g01262/impl"
)

// moveCalls returns calls of the functions of chapter 3 of one scheme with arguments that are good
// for a scheme of the sizes 2, 2 and 2 with at least two products with equal first forms.
func moveCalls() []schemeCall {
	return []schemeCall{
		{"NormalProducts", func(x impl.Scheme) (any, int64) { return pack(impl.NormalProducts(x)) }},
		{"FlipProducts", func(x impl.Scheme) (any, int64) { return pack(impl.FlipProducts(x, 0, 1, 0, 1)) }},
		{"FlipsOf", func(x impl.Scheme) (any, int64) { return pack(impl.FlipsOf(x)) }},
		{"WalkFlips", func(x impl.Scheme) (any, int64) { return pack(impl.WalkFlips(x, []int64{0, 1, 2})) }},
		{"WalkFlips by nothing", func(x impl.Scheme) (any, int64) { return pack(impl.WalkFlips(x, nil)) }},
		{"ReduceScheme", func(x impl.Scheme) (any, int64) { return pack(impl.ReduceScheme(x)) }},
		{"SplitProduct", func(x impl.Scheme) (any, int64) { return pack(impl.SplitProduct(x, 0, 1, impl.Form{1, 1, 1, 1})) }},
		{"PlusMove", func(x impl.Scheme) (any, int64) { return pack(impl.PlusMove(x, 0, 1)) }},
	}
}

// badMoveCalls returns calls each of which would have an error of its own.
func badMoveCalls() []schemeCall {
	return []schemeCall{
		{"FlipProducts", func(x impl.Scheme) (any, int64) { return pack(impl.FlipProducts(x, -1, 0, 0, 1)) }},
		{"FlipProducts of equal indexes", func(x impl.Scheme) (any, int64) { return pack(impl.FlipProducts(x, 0, 0, 0, 1)) }},
		{"FlipProducts at 3", func(x impl.Scheme) (any, int64) { return pack(impl.FlipProducts(x, 0, 1, 3, 1)) }},
		{"FlipProducts by 0", func(x impl.Scheme) (any, int64) { return pack(impl.FlipProducts(x, 0, 1, 0, 0)) }},
		{"WalkFlips", func(x impl.Scheme) (any, int64) { return pack(impl.WalkFlips(x, []int64{-1})) }},
		{"WalkFlips of many", func(x impl.Scheme) (any, int64) { return pack(impl.WalkFlips(x, make([]int64, 201))) }},
		{"SplitProduct", func(x impl.Scheme) (any, int64) { return pack(impl.SplitProduct(x, -1, 3, impl.Form{9})) }},
		{"SplitProduct by 0", func(x impl.Scheme) (any, int64) { return pack(impl.SplitProduct(x, 0, 0, impl.Form{})) }},
		{"PlusMove", func(x impl.Scheme) (any, int64) { return pack(impl.PlusMove(x, 0, 31)) }},
		{"PlusMove of equal indexes", func(x impl.Scheme) (any, int64) { return pack(impl.PlusMove(x, 0, 0)) }},
	}
}

func TestMovesOfNoSchemes(t *testing.T) {
	for name, x := range notSchemes() {
		for _, call := range append(moveCalls(), badMoveCalls()...) {
			result, code := call.run(x)
			wantError(t, call.name+" of a scheme with "+name, result, code, impl.ErrInvalid)
		}
	}
}

// comparisons are the functions that compare two schemes.
var comparisons = []struct {
	name string
	run  func(x, y impl.Scheme) (bool, int64)
}{
	{"AreEqualSchemes", impl.AreEqualSchemes}, {"HaveEqualSums", impl.HaveEqualSums},
}

// TestComparisonsOfNoSchemes tests that ErrInvalid is told ahead of different primes and sizes.
func TestComparisonsOfNoSchemes(t *testing.T) {
	for name, wrong := range notSchemes() {
		for _, way := range comparisons {
			for _, other := range []impl.Scheme{makeScheme(3, 1, 1, 1, "1 1 1"), strassen(2), expectStandard(5, 3, 3, 3), wrong} {
				equal, code := way.run(wrong, other)
				wantError(t, way.name+" of first a scheme with "+name, equal, code, impl.ErrInvalid)
				equal, code = way.run(other, wrong)
				wantError(t, way.name+" of second a scheme with "+name, equal, code, impl.ErrInvalid)
			}
		}
	}
}

// TestComparisonsOfDifferentSizes tries all primes and sizes with each other.
func TestComparisonsOfDifferentSizes(t *testing.T) {
	s := &sequence{}
	var schemes []impl.Scheme
	eachSize(func(p, n, m, k int64) { schemes = append(schemes, someScheme(s, p, n, m, k, int(s.below(2)))) })
	for i, x := range schemes {
		for k, y := range schemes {
			for _, way := range comparisons {
				equal, code := way.run(x, y)
				if i != k {
					wantError(t, fmt.Sprint(way.name, " of ", x, " and ", y), equal, code, impl.ErrRange)
					continue
				}
				wantCode(t, way.name, code, impl.ErrNone)
				wantSame(t, way.name+" of a scheme and itself", equal, true)
			}
		}
	}
}

// equalProducts returns a scheme with the same product several times.
func equalProducts(p int64, count int) impl.Scheme {
	x := impl.Scheme{Prime: p, Rows: 1, Inner: 1, Cols: 1}
	for len(x.Products) < count {
		x.Products = append(x.Products, impl.Product{A: impl.Form{1}, B: impl.Form{1}, C: impl.Form{1}})
	}
	return x
}

// TestProductIndexesOutOfRange tests that they are told ahead of indexes that are equal, of forms
// that are 0, and of too many products.
func TestProductIndexesOutOfRange(t *testing.T) {
	for _, count := range []int{0, 1, 2, 29, impl.MaxProducts} {
		x := equalProducts(3, count)
		for _, outside := range append([]int64{int64(count), int64(count) + 1, 256}, hugeNumbers...) {
			for _, pair := range [][2]int64{{outside, 0}, {0, outside}, {outside, outside}} {
				flipped, code := impl.FlipProducts(x, pair[0], pair[1], 0, 1)
				wantError(t, fmt.Sprint("FlipProducts ", pair, " of ", count), flipped, code, impl.ErrRange)
				plus, code := impl.PlusMove(x, pair[0], pair[1])
				wantError(t, fmt.Sprint("PlusMove ", pair, " of ", count), plus, code, impl.ErrRange)
			}
			for _, form := range []impl.Form{{}, {1}, {2}} {
				split, code := impl.SplitProduct(x, outside, 0, form)
				wantError(t, fmt.Sprint("SplitProduct ", outside, " of ", count), split, code, impl.ErrRange)
			}
		}
	}
}

// TestFactorsOutOfRange tests that they are told ahead of what ErrState and ErrLimit are for.
func TestFactorsOutOfRange(t *testing.T) {
	for _, x := range []impl.Scheme{equalProducts(5, 2), equalProducts(5, impl.MaxProducts)} {
		for _, f := range append([]int64{3, 4, 256}, hugeNumbers...) {
			for _, pair := range [][2]int64{{0, 1}, {1, 0}, {0, 0}} {
				flipped, code := impl.FlipProducts(x, pair[0], pair[1], f, 1)
				wantError(t, fmt.Sprint("FlipProducts at ", f), flipped, code, impl.ErrRange)
			}
			for _, form := range []impl.Form{{}, {1}, {2}} {
				split, code := impl.SplitProduct(x, 0, f, form)
				wantError(t, fmt.Sprint("SplitProduct at ", f), split, code, impl.ErrRange)
			}
		}
	}
}

func TestFlipNumbersOutOfRange(t *testing.T) {
	for _, p := range primes {
		x := equalProducts(p, 2)
		x.Products = append(x.Products, impl.Product{A: impl.Form{byte(p - 1)}, B: impl.Form{1}, C: impl.Form{1}})
		for _, s := range append([]int64{0, p, p + 1, 1 - p, 256, 256 + p}, hugeNumbers...) {
			for _, pair := range [][2]int64{{0, 1}, {0, 0}, {0, 2}} {
				flipped, code := impl.FlipProducts(x, pair[0], pair[1], 0, s)
				wantError(t, fmt.Sprint("FlipProducts by ", s, " for ", p), flipped, code, impl.ErrRange)
			}
		}
		for s := int64(1); s < p; s++ {
			_, code := impl.FlipProducts(x, 0, 1, 0, s)
			wantCode(t, fmt.Sprint("FlipProducts by ", s, " for ", p), code, impl.ErrNone)
		}
	}
}

// TestFlipsThatAreNone tests equal indexes, factors that differ, and parallel ones.
func TestFlipsThatAreNone(t *testing.T) {
	s := &sequence{}
	eachSize(func(p, n, m, k int64) {
		x := alikeScheme(s, p, n, m, k, 6)
		for at := range int64(36 * 3) {
			i, k, f := at/18, at/3%6, at%3
			if i != k && *factor(&x.Products[i], int(f)) == *factor(&x.Products[k], int(f)) {
				continue
			}
			for by := int64(1); by < p; by++ {
				made, code := impl.FlipProducts(x, i, k, f, by)
				wantError(t, fmt.Sprint("FlipProducts ", i, k, f, by, " of ", x), made, code, impl.ErrState)
			}
		}
	})
}

func TestWalkNumbersOutOfRange(t *testing.T) {
	for _, x := range []impl.Scheme{equalProducts(2, 3), equalProducts(3, 0), equalProducts(5, impl.MaxProducts), strassen(2)} {
		for _, count := range []int{impl.MaxFlips + 1, impl.MaxFlips + 2, 1000, 1 << 16} {
			made, code := impl.WalkFlips(x, make([]int64, count))
			wantError(t, fmt.Sprint("WalkFlips by ", count, " numbers"), made, code, impl.ErrRange)
		}
		for _, wrong := range []int64{-1, -2, -1 << 32, -1 << 63} {
			for _, at := range []int{0, 1, impl.MaxFlips - 1} {
				numbers := make([]int64, at+1)
				numbers[at] = wrong
				made, code := impl.WalkFlips(x, numbers)
				wantError(t, fmt.Sprint("WalkFlips by ", numbers), made, code, impl.ErrRange)
				made, code = impl.WalkFlips(x, append(numbers, 1))
				wantError(t, fmt.Sprint("WalkFlips by ", numbers, " and 1"), made, code, impl.ErrRange)
			}
		}
		made, code := impl.WalkFlips(x, make([]int64, impl.MaxFlips))
		wantCode(t, "WalkFlips by MaxFlips numbers", code, impl.ErrNone)
		wantSame(t, "WalkFlips by MaxFlips numbers", made, expectWalk(x, make([]int64, impl.MaxFlips)))
	}
}

// TestSplitsByNoForms puts wrong numbers at each place, also where there are too many products.
func TestSplitsByNoForms(t *testing.T) {
	s := &sequence{}
	eachSize(func(p, n, m, k int64) {
		places := []int64{n * m, m * k, n * k}
		for _, x := range []impl.Scheme{someScheme(s, p, n, m, k, 3), someScheme(s, p, n, m, k, impl.MaxProducts)} {
			for at := range int64(3 * len(impl.Form{})) {
				f, place := at/9, at%9
				wrong := []byte{byte(p), byte(p + 1), 128, 255}
				if place >= places[f] {
					wrong = append(wrong, 1)
				}
				for _, number := range wrong {
					for _, form := range []impl.Form{{}, *factor(&x.Products[1], int(f)), someForm(s, p, places[f])} {
						form[place] = number
						made, code := impl.SplitProduct(x, 1, f, form)
						wantError(t, fmt.Sprint("SplitProduct at ", f, " by ", form, " of ", x), made, code, impl.ErrRange)
					}
				}
			}
		}
	})
}

// TestSplitsByZeroOrTheFactor tests that ErrState is told ahead of too many products.
func TestSplitsByZeroOrTheFactor(t *testing.T) {
	s := &sequence{}
	eachSize(func(p, n, m, k int64) {
		for _, count := range []int{1, 5, impl.MaxProducts} {
			x := someScheme(s, p, n, m, k, count)
			for at := range 3 * count {
				for _, form := range []impl.Form{{}, *factor(&x.Products[at/3], at%3)} {
					made, code := impl.SplitProduct(x, int64(at/3), int64(at%3), form)
					wantError(t, fmt.Sprint("SplitProduct by ", form, " of ", x), made, code, impl.ErrState)
				}
			}
		}
	})
}

// TestMovesOfFullSchemes tests moves that would make one product more, also where products with a
// factor 0 would then be left out.
func TestMovesOfFullSchemes(t *testing.T) {
	s := &sequence{}
	for _, p := range primes {
		zeros := equalProducts(p, impl.MaxProducts)
		zeros.Products[1].C = impl.Form{byte(p - 1)}
		for _, x := range []impl.Scheme{zeros, alikeScheme(s, p, 2, 2, 2, impl.MaxProducts), someScheme(s, p, 3, 3, 3, impl.MaxProducts)} {
			count := int64(len(x.Products))
			for at := range count * count {
				made, code := impl.PlusMove(x, at/count, at%count)
				want := int64(impl.ErrLimit)
				if at/count == at%count {
					want = impl.ErrState
				}
				wantError(t, fmt.Sprint("PlusMove ", at/count, at%count, " of ", x), made, code, want)
			}
			for f := range int64(3) {
				form := someForm(s, p, x.Rows*x.Inner)
				if i := slices.IndexFunc(x.Products, func(q impl.Product) bool { return *factor(&q, int(f)) != form }); i >= 0 {
					made, code := impl.SplitProduct(x, int64(i), f, form)
					wantError(t, fmt.Sprint("SplitProduct at ", f, " by ", form, " of ", x), made, code, impl.ErrLimit)
				}
			}
		}
	}
}

// TestPlusMovesOfOneProduct tests equal indexes with few products.
func TestPlusMovesOfOneProduct(t *testing.T) {
	for _, p := range primes {
		for count := 1; count <= impl.MaxProducts; count++ {
			for i := range int64(count) {
				made, code := impl.PlusMove(equalProducts(p, count), i, i)
				wantError(t, fmt.Sprint("PlusMove ", i, i), made, code, impl.ErrState)
			}
		}
	}
}
