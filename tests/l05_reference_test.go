package tests

import (
	"slices"

	"loop.example/g01262/impl"
)

// The functions of this file say again what chapter 5 says, place by place.

func sidesOf(t impl.Tensor) [3]int64 { return [3]int64{t.I, t.J, t.K} }

// eachPlace calls do for each i, j, k of three sides, in the order of the places.
func eachPlace(sides [3]int64, do func(i, j, k int64)) {
	for i := range sides[0] {
		for j := range sides[1] {
			for k := range sides[2] {
				do(i, j, k)
			}
		}
	}
}

func expectAt(t impl.Tensor, i, j, k int64) int64 { return t.Numbers[(i*t.J+j)*t.K+k] }

// makeTensor returns the tensor with the rests of what number tells of each place.
func makeTensor(p int64, sides [3]int64, number func(i, j, k int64) int64) impl.Tensor {
	t := impl.Tensor{Prime: p, I: sides[0], J: sides[1], K: sides[2]}
	eachPlace(sides, func(i, j, k int64) { t.Numbers = append(t.Numbers, number(i, j, k)%p) })
	return t
}

func expectTensor(t impl.Tensor) bool {
	if t.Prime != 2 && t.Prime != 3 && t.Prime != 5 {
		return false
	}
	for _, side := range sidesOf(t) {
		if side < 1 || side > 9 {
			return false
		}
	}
	if len(t.Numbers) != int(t.I*t.J*t.K) {
		return false
	}
	for _, number := range t.Numbers {
		if number < 0 || number >= t.Prime {
			return false
		}
	}
	return true
}

func expectSchemeTensor(x impl.Scheme) impl.Tensor {
	sides := [3]int64{x.Rows * x.Inner, x.Inner * x.Cols, x.Rows * x.Cols}
	return makeTensor(x.Prime, sides, func(a, b, c int64) int64 { return expectLeft(x, a, b, c) })
}

// expectSlice puts each number of the slice into its row and its column.
func expectSlice(t impl.Tensor, side, at int64) [][]int64 {
	shapes := [3][2]int64{{t.J, t.K}, {t.K, t.I}, {t.I, t.J}}
	rows := zeros(shapes[side][0], shapes[side][1])
	eachPlace(sidesOf(t), func(i, j, k int64) {
		number := expectAt(t, i, j, k)
		switch {
		case side == 0 && i == at:
			rows[j][k] = number
		case side == 1 && j == at:
			rows[k][i] = number
		case side == 2 && k == at:
			rows[i][j] = number
		}
	})
	return rows
}

// expectFlattening has the slices of a side as rows, row by row.
func expectFlattening(t impl.Tensor, side int64) [][]int64 {
	var rows [][]int64
	for at := range sidesOf(t)[side] {
		rows = append(rows, slices.Concat(expectSlice(t, side, at)...))
	}
	return rows
}

// expectRowRank keeps rows that are not sums of multiples of those before them: each row is led to
// zeros by the rows kept, or is kept.
func expectRowRank(p int64, rows [][]int64) int64 {
	leads := map[int][]int64{}
	for _, row := range rows {
		row = slices.Clone(row)
		for at := range row {
			kept := leads[at]
			if row[at] == 0 {
				continue
			}
			if kept == nil {
				leads[at] = row
				break
			}
			for row[at] != 0 {
				row = rowsAdded(p, row, kept)
			}
		}
	}
	return int64(len(leads))
}

func rowsAdded(p int64, row, other []int64) []int64 {
	sum := make([]int64, len(row))
	for at := range row {
		sum[at] = (row[at] + other[at]) % p
	}
	return sum
}

// countedRank finds the rank from the number of different sums of multiples of rows, p to the rank.
func countedRank(p int64, rows [][]int64) int64 {
	sums := map[string]bool{string(make([]byte, len(rows[0]))): true}
	for _, row := range rows {
		more := map[string]bool{}
		for sum := range sums {
			for factor := range p {
				text := []byte(sum)
				for at := range text {
					text[at] = byte((int64(text[at]) + factor*row[at]) % p)
				}
				more[string(text)] = true
			}
		}
		sums = more
	}
	rank := int64(0)
	for count := len(sums); count > 1; count /= int(p) {
		rank++
	}
	return rank
}

func expectRanks(t impl.Tensor) [3]int64 {
	var ranks [3]int64
	for side := range ranks {
		ranks[side] = expectRowRank(t.Prime, expectFlattening(t, int64(side)))
	}
	return ranks
}

func expectAdded(t, u impl.Tensor, k int64) impl.Tensor {
	return makeTensor(t.Prime, sidesOf(t), func(i, j, l int64) int64 { return expectAt(t, i, j, l) + k*expectAt(u, i, j, l) })
}

// expectTurn goes through the numbers of t, and puts each where it belongs.
func expectTurn(t impl.Tensor) impl.Tensor {
	made := impl.Tensor{Prime: t.Prime, I: t.J, J: t.K, K: t.I, Numbers: make([]int64, len(t.Numbers))}
	for place, number := range t.Numbers {
		i, j, k := int64(place)/(t.J*t.K), int64(place)/t.K%t.J, int64(place)%t.K
		made.Numbers[(j*t.K+k)*t.I+i] = number
	}
	return made
}

// expectKronecker goes through the places of both tensors.
func expectKronecker(t, u impl.Tensor) impl.Tensor {
	made := impl.Tensor{Prime: t.Prime, I: t.I * u.I, J: t.J * u.J, K: t.K * u.K, Numbers: make([]int64, len(t.Numbers)*len(u.Numbers))}
	eachPlace(sidesOf(t), func(i, j, k int64) {
		eachPlace(sidesOf(u), func(a, b, c int64) {
			place := ((i*u.I+a)*made.J+j*u.J+b)*made.K + k*u.K + c
			made.Numbers[place] = expectAt(t, i, j, k) * expectAt(u, a, b, c) % t.Prime
		})
	})
	return made
}

// expectDirectSum puts the numbers of both tensors into zeros.
func expectDirectSum(t, u impl.Tensor) impl.Tensor {
	made := impl.Tensor{Prime: t.Prime, I: t.I + u.I, J: t.J + u.J, K: t.K + u.K}
	made.Numbers = make([]int64, made.I*made.J*made.K)
	eachPlace(sidesOf(t), func(i, j, k int64) { made.Numbers[(i*made.J+j)*made.K+k] = expectAt(t, i, j, k) })
	eachPlace(sidesOf(u), func(i, j, k int64) {
		made.Numbers[((t.I+i)*made.J+t.J+j)*made.K+t.K+k] = expectAt(u, i, j, k)
	})
	return made
}

func expectContracted(t impl.Tensor, side int64, numbers []int64) [][]int64 {
	sum := expectSlice(t, side, 0)
	for _, row := range sum {
		clear(row)
	}
	for at, number := range numbers {
		for i, row := range expectSlice(t, side, int64(at)) {
			for j := range row {
				sum[i][j] = (sum[i][j] + number*row[j]) % t.Prime
			}
		}
	}
	return sum
}

func simpleTensor(p int64, u, v, w []int64) impl.Tensor {
	sides := [3]int64{int64(len(u)), int64(len(v)), int64(len(w))}
	return makeTensor(p, sides, func(i, j, k int64) int64 { return u[i] * v[j] * w[k] })
}

// expectSimple tries all lists u and v with 1 as their first numbers, and finds w from them, for
// tensors with short sides.
func expectSimple(t impl.Tensor) bool {
	if !slices.ContainsFunc(t.Numbers, func(number int64) bool { return number != 0 }) {
		return false
	}
	for _, u := range allColumns(t.Prime, t.I) {
		for _, v := range allColumns(t.Prime, t.J) {
			if !startsWithOne(u) || !startsWithOne(v) {
				continue
			}
			w := expectSlice(t, 0, int64(slices.Index(u, 1)))[slices.Index(v, 1)]
			if sameTensor(simpleTensor(t.Prime, u, v, w), t) {
				return true
			}
		}
	}
	return false
}

// startsWithOne reports whether the first number other than 0 of a list is 1.
func startsWithOne(list []int64) bool {
	at := slices.IndexFunc(list, func(number int64) bool { return number != 0 })
	return at >= 0 && list[at] == 1
}

func sameTensor(t, u impl.Tensor) bool {
	return t.Prime == u.Prime && sidesOf(t) == sidesOf(u) && slices.Equal(t.Numbers, u.Numbers)
}
