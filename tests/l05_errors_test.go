package tests

import (
	"fmt"
	"slices"
	"testing"

	"loop.example/g01262/impl"
)

// notSides are values that are no side; some are one in their lowest bytes.
var notSides = []int64{0, 10, -1, -2, -9, 11, 256 + 1, 1<<32 + 1, 1 << 32, 1<<63 - 1, -1 << 63}

// notTensors returns tensors that break one condition each, by the name of what is wrong. Where sides
// are wrong, there are as many numbers as their product, if it can be.
func notTensors() map[string]impl.Tensor {
	list := map[string]impl.Tensor{
		"everything 0":                        {},
		"two sides below 0":                   {Prime: 2, I: -1, J: -1, K: 1, Numbers: []int64{1}},
		"two last sides below 0":              {Prime: 2, I: 1, J: -2, K: -1, Numbers: []int64{1, 0}},
		"great sides whose product wraps":     {Prime: 2, I: 1 << 32, J: 1 << 32, K: 1},
		"greater sides, their product 1":      {Prime: 3, I: 1<<63 - 1, J: 1<<63 - 1, K: 1, Numbers: []int64{1}},
		"least sides whose product wraps":     {Prime: 5, I: -1 << 63, J: 2, K: 1},
		"no numbers":                          {Prime: 2, I: 1, J: 1, K: 1},
		"as many numbers as the sum of sides": {Prime: 2, I: 2, J: 2, K: 2, Numbers: make([]int64, 6)},
	}
	for _, p := range notPrimes {
		list[fmt.Sprint("the prime ", p)] = impl.Tensor{Prime: p, I: 1, J: 1, K: 1, Numbers: []int64{0}}
		list[fmt.Sprint("a number and the prime ", p)] = impl.Tensor{Prime: p, I: 1, J: 1, K: 2, Numbers: []int64{0, 1}}
	}
	for _, n := range notSides {
		for at := range 3 {
			sides := [3]int64{1, 1, 1}
			sides[at] = n
			numbers := make([]int64, min(max(n, 0), 11))
			list[fmt.Sprint("the side ", at, " ", n)] = impl.Tensor{Prime: 3, I: sides[0], J: sides[1], K: sides[2], Numbers: numbers}
		}
	}
	for _, sides := range someSides {
		count := sides[0] * sides[1] * sides[2]
		x := impl.Tensor{Prime: 5, I: sides[0], J: sides[1], K: sides[2]}
		for _, length := range []int64{0, count - 1, count + 1, 2 * count, 1000} {
			if length != count {
				x.Numbers = make([]int64, length)
				list[fmt.Sprint(length, " numbers for the sides ", sides)] = x
			}
		}
	}
	for _, p := range primes {
		for _, number := range notNumbers(p) {
			for place := range 8 {
				x := makeTensor(p, [3]int64{2, 2, 2}, func(i, j, k int64) int64 { return 1 })
				x.Numbers[place] = number
				list[fmt.Sprint("the number ", number, " modulo ", p, " at ", place)] = x
			}
		}
	}
	return list
}

// notNumbers returns values that are no numbers modulo p; some are one in their lowest bytes.
func notNumbers(p int64) []int64 {
	return []int64{p, p + 1, -1, -p, 255, 256, 1 << 32, 1<<32 + 1, 1<<63 - 1, -1 << 63}
}

func TestNoTensors(t *testing.T) {
	for name, x := range notTensors() {
		if impl.IsTensor(x) || expectTensor(x) {
			t.Errorf("IsTensor of a tensor with %s is true", name)
		}
	}
}

// tensorCall is a call of a function of chapter 5 with a tensor.
type tensorCall struct {
	name string
	run  func(x impl.Tensor) (any, int64)
}

// tensorCalls returns calls with other arguments that are good for a tensor of the sides 2, 2 and 2.
func tensorCalls() []tensorCall {
	return []tensorCall{
		{"NumberAt", func(x impl.Tensor) (any, int64) { return pack(impl.NumberAt(x, 0, 0, 0)) }},
		{"SliceOf the side 0", func(x impl.Tensor) (any, int64) { return pack(impl.SliceOf(x, 0, 0)) }},
		{"SliceOf the side 1", func(x impl.Tensor) (any, int64) { return pack(impl.SliceOf(x, 1, 0)) }},
		{"SliceOf the side 2", func(x impl.Tensor) (any, int64) { return pack(impl.SliceOf(x, 2, 0)) }},
		{"FlattenRanks", func(x impl.Tensor) (any, int64) { return pack(impl.FlattenRanks(x)) }},
		{"TurnTensor", func(x impl.Tensor) (any, int64) { return pack(impl.TurnTensor(x)) }},
		{"AddTensors to itself", func(x impl.Tensor) (any, int64) { return pack(impl.AddTensors(x, x, 1)) }},
		{"AddTensors to itself no times", func(x impl.Tensor) (any, int64) { return pack(impl.AddTensors(x, x, 0)) }},
		{"KroneckerTensors with itself", func(x impl.Tensor) (any, int64) { return pack(impl.KroneckerTensors(x, x)) }},
		{"DirectSum with itself", func(x impl.Tensor) (any, int64) { return pack(impl.DirectSum(x, x)) }},
		{"ContractTensor of the side 0", func(x impl.Tensor) (any, int64) { return pack(impl.ContractTensor(x, 0, []int64{1, 0})) }},
		{"ContractTensor of the side 1", func(x impl.Tensor) (any, int64) { return pack(impl.ContractTensor(x, 1, []int64{1, 1})) }},
		{"ContractTensor of the side 2", func(x impl.Tensor) (any, int64) { return pack(impl.ContractTensor(x, 2, []int64{0, 1})) }},
		{"IsSimple", func(x impl.Tensor) (any, int64) { return pack(impl.IsSimple(x)) }},
		{"FactorsOfSimple", func(x impl.Tensor) (any, int64) { return pack(impl.FactorsOfSimple(x)) }},
	}
}

// badTensorCalls returns calls each of which would have an error of its own.
func badTensorCalls() []tensorCall {
	return []tensorCall{
		{"NumberAt below 0", func(x impl.Tensor) (any, int64) { return pack(impl.NumberAt(x, -1, 0, 0)) }},
		{"NumberAt 10", func(x impl.Tensor) (any, int64) { return pack(impl.NumberAt(x, 0, 0, 10)) }},
		{"SliceOf the side 3", func(x impl.Tensor) (any, int64) { return pack(impl.SliceOf(x, 3, 0)) }},
		{"SliceOf the side -1", func(x impl.Tensor) (any, int64) { return pack(impl.SliceOf(x, -1, 0)) }},
		{"SliceOf at 10", func(x impl.Tensor) (any, int64) { return pack(impl.SliceOf(x, 1, 10)) }},
		{"AddTensors to itself -1 times", func(x impl.Tensor) (any, int64) { return pack(impl.AddTensors(x, x, -1)) }},
		{"AddTensors to itself 5 times", func(x impl.Tensor) (any, int64) { return pack(impl.AddTensors(x, x, 5)) }},
		{"ContractTensor of the side 3", func(x impl.Tensor) (any, int64) { return pack(impl.ContractTensor(x, 3, []int64{1, 0})) }},
		{"ContractTensor of the side -1", func(x impl.Tensor) (any, int64) { return pack(impl.ContractTensor(x, -1, nil)) }},
		{"ContractTensor with nothing", func(x impl.Tensor) (any, int64) { return pack(impl.ContractTensor(x, 0, nil)) }},
		{"ContractTensor with great numbers", func(x impl.Tensor) (any, int64) { return pack(impl.ContractTensor(x, 0, []int64{5, -1})) }},
	}
}

func TestTensorsInvalidComesFirst(t *testing.T) {
	for name, x := range notTensors() {
		for _, call := range append(tensorCalls(), badTensorCalls()...) {
			result, code := call.run(x)
			wantError(t, call.name+" of a tensor with "+name, result, code, impl.ErrInvalid)
		}
	}
}

// tensorPairs are the functions of two tensors.
var tensorPairs = []struct {
	name string
	run  func(x, y impl.Tensor) (impl.Tensor, int64)
}{
	{"AddTensors", func(x, y impl.Tensor) (impl.Tensor, int64) { return impl.AddTensors(x, y, 1) }},
	{"AddTensors no times", func(x, y impl.Tensor) (impl.Tensor, int64) { return impl.AddTensors(x, y, 0) }},
	{"AddTensors -1 times", func(x, y impl.Tensor) (impl.Tensor, int64) { return impl.AddTensors(x, y, -1) }},
	{"KroneckerTensors", impl.KroneckerTensors}, {"DirectSum", impl.DirectSum},
}

// TestInvalidPairsOfTensors tests that ErrInvalid is told ahead of primes that differ and of great sides.
func TestInvalidPairsOfTensors(t *testing.T) {
	s := &sequence{}
	others := []impl.Tensor{tensorsOf(s, 2, [3]int64{1, 1, 1})[2], tensorsOf(s, 3, [3]int64{2, 2, 2})[3], tensorsOf(s, 5, [3]int64{9, 9, 9})[4]}
	for name, wrong := range notTensors() {
		for _, way := range tensorPairs {
			for _, other := range append(slices.Clone(others), wrong) {
				made, code := way.run(wrong, other)
				wantError(t, way.name+" of first a tensor with "+name, made, code, impl.ErrInvalid)
				made, code = way.run(other, wrong)
				wantError(t, way.name+" of second a tensor with "+name, made, code, impl.ErrInvalid)
			}
		}
	}
}

// TestTensorsOfDifferentPrimes tests that ErrRange is told ahead of ErrLimit.
func TestTensorsOfDifferentPrimes(t *testing.T) {
	for _, sides := range [][3]int64{{1, 1, 1}, {2, 2, 2}, {5, 5, 5}, {9, 1, 1}, {1, 9, 1}, {1, 1, 9}, {9, 9, 9}} {
		for _, p := range primes {
			for _, q := range primes {
				ones := func(i, j, k int64) int64 { return 1 }
				x, y := makeTensor(p, sides, ones), makeTensor(q, sides, ones)
				for _, way := range tensorPairs {
					if made, code := way.run(x, y); p != q {
						wantError(t, fmt.Sprint(way.name, " for the primes ", p, q), made, code, impl.ErrRange)
					}
				}
			}
		}
	}
}

func TestSumsOfDifferentSides(t *testing.T) {
	s := &sequence{}
	for _, p := range primes {
		for _, first := range someSides {
			for _, second := range someSides {
				for _, k := range []int64{0, 1} {
					made, code := impl.AddTensors(tensorsOf(s, p, first)[0], tensorsOf(s, p, second)[2], k)
					if first != second {
						wantError(t, fmt.Sprint("AddTensors for the sides ", first, " and ", second), made, code, impl.ErrRange)
					}
				}
			}
		}
	}
}

func TestMultiplesOutOfRange(t *testing.T) {
	s := &sequence{}
	for _, p := range primes {
		x := tensorsOf(s, p, [3]int64{1, 2, 3})[4]
		for _, k := range notNumbers(p) {
			made, code := impl.AddTensors(x, x, k)
			wantError(t, fmt.Sprint("AddTensors ", k, " times"), made, code, impl.ErrRange)
		}
	}
}

// TestLimitsOfSides tests MaxSide and one more at each side, with short other sides.
func TestLimitsOfSides(t *testing.T) {
	ofSide := func(side int, length int64) impl.Tensor {
		sides := [3]int64{1, 1, 1}
		sides[side] = length
		return makeTensor(3, sides, func(i, j, k int64) int64 { return i + j + k + 1 })
	}
	for side := range 3 {
		for first := int64(1); first <= impl.MaxSide; first++ {
			for second := int64(1); second <= impl.MaxSide; second++ {
				x, y := ofSide(side, first), ofSide(side, second)
				made, code := impl.KroneckerTensors(x, y)
				if first*second > impl.MaxSide {
					wantError(t, fmt.Sprint("KroneckerTensors for the lengths ", first, second), made, code, impl.ErrLimit)
				} else {
					wantTensor(t, "KroneckerTensors", x, made, code, expectKronecker(x, y))
				}
				made, code = impl.DirectSum(x, y)
				if first+second > impl.MaxSide {
					wantError(t, fmt.Sprint("DirectSum for the lengths ", first, second), made, code, impl.ErrLimit)
				} else {
					wantTensor(t, "DirectSum", x, made, code, expectDirectSum(x, y))
				}
			}
		}
	}
}

func TestTensorsOfNoSchemes(t *testing.T) {
	for name, x := range notSchemes() {
		made, code := impl.TensorOfScheme(x)
		wantError(t, "TensorOfScheme of a scheme with "+name, made, code, impl.ErrInvalid)
	}
}

func TestMatrixTensorRange(t *testing.T) {
	for _, p := range notPrimes {
		for _, n := range []int64{0, 1, 3, 4} {
			made, code := impl.MatrixTensor(p, n, 2, n)
			wantError(t, fmt.Sprint("MatrixTensor of ", p), made, code, impl.ErrRange)
		}
	}
	for _, n := range notSizes {
		for _, size := range [][3]int64{{n, 1, 1}, {1, n, 2}, {2, 2, n}, {n, n, n}} {
			for _, p := range primes {
				made, code := impl.MatrixTensor(p, size[0], size[1], size[2])
				wantError(t, fmt.Sprint("MatrixTensor of ", size), made, code, impl.ErrRange)
			}
		}
	}
}

// outsideOf returns numbers that are none of a side: the length itself, and others.
func outsideOf(length int64) []int64 {
	return []int64{length, length + 1, -1, -length, 10, 256, 1 << 32, 1<<32 + length - 1, 1<<63 - 1, -1 << 63}
}

// TestPlacesOutOfTensors tests numbers outside of each side, also where the place would be one.
func TestPlacesOutOfTensors(t *testing.T) {
	s := &sequence{}
	for _, sides := range someSides {
		x := tensorsOf(s, 5, sides)[7]
		for side, length := range sides {
			for _, outside := range outsideOf(length) {
				at := [3]int64{s.below(sides[0]), s.below(sides[1]), s.below(sides[2])}
				at[side] = outside
				number, code := impl.NumberAt(x, at[0], at[1], at[2])
				wantError(t, fmt.Sprint("NumberAt ", at, " for the sides ", sides), number, code, impl.ErrRange)
				rows, code := impl.SliceOf(x, int64(side), outside)
				wantError(t, fmt.Sprint("SliceOf at ", outside, " of the side ", side, " of ", sides), rows, code, impl.ErrRange)
			}
		}
	}
}

func TestSidesOutOfRange(t *testing.T) {
	s := &sequence{}
	for _, sides := range someSides {
		x := tensorsOf(s, 3, sides)[7]
		for _, side := range []int64{-1, 3, 4, -3, 256, 1 << 32, 1<<32 + 1, 1<<63 - 1, -1 << 63} {
			for _, length := range append(sides[:], 0) {
				rows, code := impl.SliceOf(x, side, max(length-1, 0))
				wantError(t, fmt.Sprint("SliceOf the side ", side), rows, code, impl.ErrRange)
				rows, code = impl.ContractTensor(x, side, make([]int64, length))
				wantError(t, fmt.Sprint("ContractTensor of the side ", side), rows, code, impl.ErrRange)
			}
		}
	}
}

// TestListsThatContractNothing has lists too short, too long and empty, and numbers out of range at
// each place.
func TestListsThatContractNothing(t *testing.T) {
	s := &sequence{}
	for _, p := range primes {
		for _, sides := range someSides {
			x := tensorsOf(s, p, sides)[7]
			for side, length := range sides {
				for _, other := range []int64{0, length - 1, length + 1, sides[(side+1)%3], sides[(side+2)%3], length * 2, 1000} {
					if other != length {
						rows, code := impl.ContractTensor(x, int64(side), someList(s, p, other))
						wantError(t, fmt.Sprint("ContractTensor with ", other, " of ", length, " numbers"), rows, code, impl.ErrRange)
					}
				}
				for at := range length {
					for _, wrong := range notNumbers(p) {
						numbers := someList(s, p, length)
						numbers[at] = wrong
						rows, code := impl.ContractTensor(x, int64(side), numbers)
						wantError(t, fmt.Sprint("ContractTensor with ", numbers), rows, code, impl.ErrRange)
					}
				}
			}
		}
	}
}

func TestRowRankShapes(t *testing.T) {
	list := [][][]int64{nil, {}, {nil}, {{}}, {nil, nil}, {{}, {1}}, {{1}, {}}, {{1}, nil}, {{1, 0}, {1}}, {{1}, {1, 0}}, {{1, 0}, {1, 0}, {1, 0, 0}}}
	for _, shape := range [][2]int64{{10, 1}, {10, 81}, {1, 82}, {9, 82}, {10, 82}, {11, 3}, {1000, 1}, {1, 1000}, {82, 9}} {
		list = append(list, zeros(shape[0], shape[1]))
	}
	for i := range impl.MaxSide {
		shorter, longer := zeros(impl.MaxSide, 81), zeros(impl.MaxSide, 81)
		shorter[i], longer[i] = shorter[i][1:], append(longer[i], 0)
		list = append(list, shorter, longer)
	}
	for _, p := range primes {
		for _, rows := range list {
			rank, code := impl.RowRank(p, rows)
			wantError(t, fmt.Sprint("RowRank of ", rows), rank, code, impl.ErrRange)
		}
	}
}

func TestRowRankNumbers(t *testing.T) {
	for _, p := range primes {
		for _, shape := range [][2]int64{{1, 1}, {2, 3}, {3, 2}, {9, 1}, {1, 9}, {9, 9}} {
			for place := range shape[0] * shape[1] {
				for _, wrong := range notNumbers(p) {
					rows := zeros(shape[0], shape[1])
					rows[place/shape[1]][place%shape[1]] = wrong
					rank, code := impl.RowRank(p, rows)
					wantError(t, fmt.Sprint("RowRank of ", rows), rank, code, impl.ErrRange)
				}
			}
		}
	}
}

func TestRowRankPrimes(t *testing.T) {
	for _, p := range notPrimes {
		for _, rows := range [][][]int64{{{0}}, {{1}}, {{0, 0}, {0, 0}}, nil, {{p - 1}}} {
			rank, code := impl.RowRank(p, rows)
			wantError(t, fmt.Sprint("RowRank of ", rows, " modulo ", p), rank, code, impl.ErrRange)
		}
	}
}
