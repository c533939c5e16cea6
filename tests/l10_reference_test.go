package tests

import (
	"slices"

	"loop.example/g01262/impl"
)

// The functions of this file say again what chapter 10 says, in the plainest way.

// frame returns the scheme without products for a prime and sizes. It tells what pairs are for.
func frame(p, n, m, k int64) impl.Scheme {
	return impl.Scheme{Prime: p, Rows: n, Inner: m, Cols: k}
}

func frameOf(x impl.Scheme) impl.Scheme { return frame(x.Prime, x.Rows, x.Inner, x.Cols) }

func expectPair(x impl.Scheme, q impl.Pair) bool {
	return expectForm(x.Prime, x.Rows*x.Inner, q.A) && expectForm(x.Prime, x.Inner*x.Cols, q.B)
}

func expectPairsOf(x impl.Scheme) []impl.Pair {
	var list []impl.Pair
	for _, q := range x.Products {
		list = append(list, impl.Pair{A: q.A, B: q.B})
	}
	return list
}

// pairTable returns the products of the numbers of a pair at all places a and b.
func pairTable(x impl.Scheme, q impl.Pair) []int64 {
	var numbers []int64
	for a := range x.Rows * x.Inner {
		for b := range x.Inner * x.Cols {
			numbers = append(numbers, int64(q.A[a])*int64(q.B[b])%x.Prime)
		}
	}
	return numbers
}

func pairTables(x impl.Scheme, list []impl.Pair) [][]int64 {
	var tables [][]int64
	for _, q := range list {
		tables = append(tables, pairTable(x, q))
	}
	return tables
}

// rightTable returns the right sides at all places a and b, and the place c.
func rightTable(x impl.Scheme, c int64) []int64 {
	var numbers []int64
	for a := range x.Rows * x.Inner {
		for b := range x.Inner * x.Cols {
			numbers = append(numbers, expectRight(x, a, b, c))
		}
	}
	return numbers
}

// completions returns all lists of numbers t for the place c, found by trying all lists there are.
func completions(x impl.Scheme, list []impl.Pair, c int64) [][]int64 {
	var found [][]int64
	tables, right := pairTables(x, list), rightTable(x, c)
	for _, numbers := range allColumns(x.Prime, int64(len(list))) {
		sum := make([]int64, len(right))
		for i, table := range tables {
			for at := range sum {
				sum[at] = (sum[at] + numbers[i]*table[at]) % x.Prime
			}
		}
		if slices.Equal(sum, right) {
			found = append(found, numbers)
		}
	}
	return found
}

// freePairs tells which pairs are free, by all sums of multiples of the tables ahead of each.
func freePairs(x impl.Scheme, list []impl.Pair) []bool {
	var free []bool
	sums := map[string]bool{string(make([]byte, x.Rows*x.Inner*x.Inner*x.Cols)): true}
	for _, table := range pairTables(x, list) {
		text := make([]byte, len(table))
		for at, number := range table {
			text[at] = byte(number)
		}
		free = append(free, sums[string(text)])
		more := map[string]bool{}
		for sum := range sums {
			next := []byte(sum)
			for range x.Prime {
				for at := range next {
					next[at] = byte((int64(next[at]) + table[at]) % x.Prime)
				}
				more[string(next)] = true
			}
		}
		sums = more
	}
	return free
}

// withoutFree returns the only one of some lists of numbers that has 0 for all free pairs.
func withoutFree(lists [][]int64, free []bool) []int64 {
	var left [][]int64
	for _, numbers := range lists {
		zeros := true
		for i, number := range numbers {
			zeros = zeros && (number == 0 || !free[i])
		}
		if zeros {
			left = append(left, numbers)
		}
	}
	if len(left) != 1 {
		panic("the numbers are told in another number of ways than one")
	}
	return left[0]
}

// completedByTrying returns nothing and false if there are no numbers t for some place.
func completedByTrying(x impl.Scheme, list []impl.Pair) (impl.Scheme, bool) {
	products, free := make([]impl.Product, len(list)), freePairs(x, list)
	for c := range x.Rows * x.Cols {
		lists := completions(x, list, c)
		if len(lists) == 0 {
			return impl.Scheme{}, false
		}
		for i, number := range withoutFree(lists, free) {
			products[i].A, products[i].B, products[i].C[c] = list[i].A, list[i].B, byte(number)
		}
	}
	return withKept(x, products), true
}

// led adds kept rows to a row until none is kept for its first number other than 0 at the first places, and
// returns this place, or the number of these places if there is no such number.
func led(p int64, row []int64, kept map[int][]int64, places int) ([]int64, int) {
	for at := range places {
		for row[at] != 0 {
			if kept[at] == nil {
				return row, at
			}
			row = rowsAdded(p, row, kept[at])
		}
	}
	return row, places
}

// keptTables has the tables of the pairs that are not free, led by those ahead, by their first places. Behind each
// stands of which pairs it is the sum, and how often.
func keptTables(x impl.Scheme, list []impl.Pair) map[int][]int64 {
	kept, places := map[int][]int64{}, int(x.Rows*x.Inner*x.Inner*x.Cols)
	for i, table := range pairTables(x, list) {
		row, at := led(x.Prime, append(table, unitList(int64(len(list)), int64(i))...), kept, places)
		if at < places {
			kept[at] = row
		}
	}
	return kept
}

// expectRankOfPairs counts the pairs that are not free, for long lists too.
func expectRankOfPairs(x impl.Scheme, list []impl.Pair) int64 { return int64(len(keptTables(x, list))) }

// expectCompleted completes long lists, too: the tables that lead the right sides to zeros add up to what is
// missing of them.
func expectCompleted(x impl.Scheme, list []impl.Pair) (impl.Scheme, bool) {
	products, kept, places := make([]impl.Product, len(list)), keptTables(x, list), int(x.Rows*x.Inner*x.Inner*x.Cols)
	for c := range x.Rows * x.Cols {
		row, at := led(x.Prime, append(rightTable(x, c), make([]int64, len(list))...), kept, places)
		if at < places {
			return impl.Scheme{}, false
		}
		for i, number := range row[places:] {
			products[i].A, products[i].B, products[i].C[c] = list[i].A, list[i].B, byte((x.Prime-number)%x.Prime)
		}
	}
	return withKept(frameOf(x), products), true
}

// expectNeedless leaves out each product.
func expectNeedless(x impl.Scheme) []int64 {
	var needless []int64
	for i := range x.Products {
		others := slices.Delete(expectPairsOf(x), i, i+1)
		if _, can := expectCompleted(x, others); can {
			needless = append(needless, int64(i))
		}
	}
	return needless
}

// firstMerge returns the first i and j of which two forms are equal, and which form is the third one; j is 0 if
// there are none.
func firstMerge(x impl.Scheme) (i, j, third int) {
	for i, q := range x.Products {
		for j := i + 1; j < len(x.Products); j++ {
			r := x.Products[j]
			switch {
			case q.A == r.A && q.B == r.B:
				return i, j, 2
			case q.A == r.A && q.C == r.C:
				return i, j, 1
			case q.B == r.B && q.C == r.C:
				return i, j, 0
			}
		}
	}
	return 0, 0, 0
}

// expectMerged takes one step after the other. A product that is left out has zeros everywhere for a moment.
func expectMerged(x impl.Scheme) impl.Scheme {
	for i, j, third := firstMerge(x); j > 0; i, j, third = firstMerge(x) {
		list := slices.Clone(x.Products)
		*factor(&list[i], third) = together(x.Prime, *factor(&list[i], third), 1, *factor(&list[j], third))
		list[j] = impl.Product{}
		x = withKept(x, list)
	}
	return x
}

// numbersBehind returns as many numbers behind a seed as told.
func numbersBehind(seed int64, count int64) []int64 {
	var numbers []int64
	for range count {
		seed = seed * 48271 % 2147483647
		numbers = append(numbers, seed)
	}
	return numbers
}

// strolled returns a scheme after one step with the numbers u, v and w.
func strolled(x impl.Scheme, u, v, w int64) impl.Scheme {
	count := int64(len(x.Products))
	if count == 0 {
		return x
	}
	i, j, one := u%count, v%count, int(w%3)
	two, three := (one+1)%3, (one+2)%3
	before, after := x.Products, slices.Clone(x.Products)
	if i == j || *factor(&before[i], one) != *factor(&before[j], one) {
		return x
	}
	*factor(&after[i], two) = together(x.Prime, *factor(&before[i], two), 1, *factor(&before[j], two))
	*factor(&after[j], three) = together(x.Prime, *factor(&before[j], three), -1, *factor(&before[i], three))
	return withKept(x, after)
}

// expectStroll returns a scheme after a walk.
func expectStroll(x impl.Scheme, seed, steps int64) impl.Scheme {
	numbers := numbersBehind(seed, 3*steps)
	for at := int64(0); at < 3*steps; at += 3 {
		x = strolled(x, numbers[at], numbers[at+1], numbers[at+2])
	}
	return x
}

// digitsOf returns the text of a form.
func digitsOf(f impl.Form, places int64) string {
	text := ""
	for _, number := range f[:places] {
		text += string(rune('0' + number))
	}
	return text
}

// formsByText returns all forms modulo 2 that are not 0 everywhere, by their texts.
func formsByText(places int64) []impl.Form {
	forms := allForms(2, places)
	slices.SortFunc(forms, func(f, g impl.Form) int {
		if digitsOf(f, places) < digitsOf(g, places) {
			return -1
		}
		return 1
	})
	return forms
}

func expectAllPairs(n, m, k int64) []impl.Pair {
	var list []impl.Pair
	for _, a := range formsByText(n * m) {
		for _, b := range formsByText(m * k) {
			list = append(list, impl.Pair{A: a, B: b})
		}
	}
	return list
}

// bitsOf returns a table of numbers modulo 2 as the bits of a number.
func bitsOf(table []int64) uint64 {
	bits := uint64(0)
	for at, number := range table {
		bits |= uint64(number) << at
	}
	return bits
}

// areSums reports whether all right sides are sums of some of the tables, all of them as bits.
func areSums(rights, tables []uint64) bool {
	for _, right := range rights {
		found := false
		for some := range 1 << len(tables) {
			sum := uint64(0)
			for i, table := range tables {
				if some>>i&1 == 1 {
					sum ^= table
				}
			}
			found = found || sum == right
		}
		if !found {
			return false
		}
	}
	return true
}

// eachSet calls do for all sets of so many elements of a list, each of them once.
func eachSet(list []uint64, elements int64, chosen []uint64, do func(chosen []uint64)) {
	if elements == 0 {
		do(chosen)
		return
	}
	for i := range list {
		eachSet(list[i+1:], elements-1, append(slices.Clone(chosen), list[i]), do)
	}
}

// expectSets tries all sets of r pairs one by one, and returns how many there are, and how many can be completed.
func expectSets(n, m, k, r int64) (all, completed int64) {
	var rights, tables []uint64
	x := frame(2, n, m, k)
	for c := range n * k {
		rights = append(rights, bitsOf(rightTable(x, c)))
	}
	for _, table := range pairTables(x, expectAllPairs(n, m, k)) {
		tables = append(tables, bitsOf(table))
	}
	eachSet(tables, r, nil, func(chosen []uint64) {
		all++
		completed += int64(count(areSums(rights, chosen)))
	})
	return all, completed
}
