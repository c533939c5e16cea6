package tests

import (
	"fmt"
	"testing"

	"loop.example/g01262/impl"
)

var notNames = []string{"", "Strassen", "STRASSEN", "strassen ", " strassen", "strasse", "strassens", "Plain", "plain\n", "winograd\x00", "Winograd", "standard", "0"}

// hugeNumbers are far outside of all ranges; some are inside in their lowest bytes.
var hugeNumbers = []int64{-1, 256 + 1, 1 << 32, 1<<32 + 2, 1<<63 - 1, -1 << 63}

func TestKnownSchemeNotFound(t *testing.T) {
	for _, name := range notNames {
		for _, p := range append(append([]int64{}, notPrimes...), primes...) {
			x, code := impl.KnownScheme(name, p)
			wantError(t, fmt.Sprintf("KnownScheme(%q, %d)", name, p), x, code, impl.ErrNotFound)
		}
	}
}

func TestKnownSchemeRange(t *testing.T) {
	for _, name := range []string{"strassen", "winograd", "plain"} {
		for _, p := range notPrimes {
			x, code := impl.KnownScheme(name, p)
			wantError(t, fmt.Sprintf("KnownScheme(%q, %d)", name, p), x, code, impl.ErrRange)
		}
	}
}

// pairWays are the functions of two schemes.
var pairWays = []struct {
	name string
	run  func(x, y impl.Scheme) (impl.Scheme, int64)
}{
	{"JoinRows", impl.JoinRows}, {"JoinInner", impl.JoinInner}, {"JoinCols", impl.JoinCols}, {"MultiplySchemes", impl.MultiplySchemes},
}

// TestInvalidPairs tests that ErrInvalid is told ahead of what is wrong besides.
func TestInvalidPairs(t *testing.T) {
	others := []impl.Scheme{
		makeScheme(3, 1, 1, 1, "1 1 1"), strassen(2), expectStandard(5, 3, 3, 3), someScheme(&sequence{}, 3, 3, 3, 3, impl.MaxProducts),
	}
	for name, wrong := range notSchemes() {
		for _, way := range pairWays {
			for _, other := range append(others, wrong) {
				made, code := way.run(wrong, other)
				wantError(t, way.name+" of first a scheme with "+name, made, code, impl.ErrInvalid)
				made, code = way.run(other, wrong)
				wantError(t, way.name+" of second a scheme with "+name, made, code, impl.ErrInvalid)
			}
		}
		for _, n := range []int64{0, 1, 2, 4, -1 << 63} {
			made, code := impl.RestrictScheme(wrong, n, 1, n)
			wantError(t, "RestrictScheme of a scheme with "+name, made, code, impl.ErrInvalid)
		}
	}
}

// TestPairsOfDifferentPrimes tests that ErrRange is told ahead of ErrLimit.
func TestPairsOfDifferentPrimes(t *testing.T) {
	s := &sequence{}
	for _, way := range pairWays {
		for _, p := range primes {
			for _, other := range primes {
				for _, size := range []int64{1, 2, 3} {
					for _, products := range []int{0, 1, 30} {
						x, y := someScheme(s, p, size, size, size, products), someScheme(s, other, size, size, size, products)
						if p != other {
							made, code := way.run(x, y)
							wantError(t, fmt.Sprint(way.name, " of ", x, " and ", y), made, code, impl.ErrRange)
						}
					}
				}
			}
		}
	}
}

// TestJoinsThatDoNotFit tries all sizes with each other, with few products and with too many.
func TestJoinsThatDoNotFit(t *testing.T) {
	s := &sequence{}
	eachSize(func(p, n, m, k int64) {
		for other := range int64(27) {
			first, second := [3]int64{n, m, k}, [3]int64{other/9 + 1, other/3%3 + 1, other%3 + 1}
			for _, products := range []int{0, 2, 15, 16, 30} {
				x := someScheme(s, p, n, m, k, products)
				y := someScheme(s, p, second[0], second[1], second[2], products)
				for _, way := range joinWays {
					made, code := way.join(x, y)
					what := fmt.Sprint(way.name, " of ", x, " and ", y)
					fits := first
					fits[way.at] = second[way.at]
					switch {
					case fits != second:
						wantError(t, what, made, code, impl.ErrRange)
					case first[way.at]+second[way.at] > 3 || products > 15:
						wantError(t, what, made, code, impl.ErrLimit)
					default:
						wantCode(t, what, code, impl.ErrNone)
						wantSame(t, what, made, way.expect(x, y))
					}
				}
			}
		}
	})
}

// TestJoinLimits tests exactly MaxProducts products, and one more, with sizes that fit.
func TestJoinLimits(t *testing.T) {
	s := &sequence{}
	for _, way := range joinWays {
		for count := range impl.MaxProducts + 1 {
			x := someScheme(s, 3, 1, 1, 1, count)
			made, code := way.join(x, someScheme(s, 3, 1, 1, 1, impl.MaxProducts-count))
			wantCode(t, way.name, code, impl.ErrNone)
			wantSame(t, way.name+": products", len(made.Products), impl.MaxProducts)
			if count > 0 {
				made, code = way.join(x, someScheme(s, 3, 1, 1, 1, impl.MaxProducts-count+1))
				wantError(t, way.name+" with one product more", made, code, impl.ErrLimit)
			}
		}
	}
}

func TestMultiplyLimits(t *testing.T) {
	s := &sequence{}
	for count := range impl.MaxProducts + 1 {
		for other := range impl.MaxProducts + 1 {
			x, y := someScheme(s, 2, 3, 1, 1, count), someScheme(s, 2, 1, 2, 3, other)
			made, code := impl.MultiplySchemes(x, y)
			what := fmt.Sprint("MultiplySchemes of ", count, " and ", other, " products")
			if count*other > impl.MaxProducts {
				wantError(t, what, made, code, impl.ErrLimit)
				continue
			}
			wantCode(t, what, code, impl.ErrNone)
			wantSame(t, what, made, expectMultiplied(x, y))
		}
	}
}

func TestJoinNumberRange(t *testing.T) {
	for _, n := range notSizes {
		for _, size := range [][3]int64{{n, 1, 1}, {1, n, 2}, {2, 2, n}, {n, n, n}} {
			number, code := impl.JoinNumber(size[0], size[1], size[2])
			wantError(t, fmt.Sprint("JoinNumber of ", size), number, code, impl.ErrRange)
			for _, p := range []int64{2, 3, 5, 0, 4} {
				x, code := impl.JoinScheme(p, size[0], size[1], size[2])
				wantError(t, fmt.Sprint("JoinScheme of ", p, size), x, code, impl.ErrRange)
			}
		}
	}
}

func TestJoinSchemePrimes(t *testing.T) {
	for _, p := range notPrimes {
		for _, n := range []int64{1, 2, 3} {
			x, code := impl.JoinScheme(p, n, n, n)
			wantError(t, fmt.Sprint("JoinScheme of ", p), x, code, impl.ErrRange)
		}
	}
}

func TestRestrictSchemeRange(t *testing.T) {
	s := &sequence{}
	eachSize(func(p, n, m, k int64) {
		x := someScheme(s, p, n, m, k, 2)
		for at, size := range [3]int64{n, m, k} {
			for _, outside := range append([]int64{0, size + 1, 4, size + 256}, hugeNumbers...) {
				to := [3]int64{n, m, k}
				to[at] = outside
				made, code := impl.RestrictScheme(x, to[0], to[1], to[2])
				wantError(t, fmt.Sprint("RestrictScheme to ", to, " of ", x), made, code, impl.ErrRange)
			}
		}
	})
}
