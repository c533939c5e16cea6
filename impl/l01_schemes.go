package impl

import (
	"bytes"
	"cmp"
	"slices"
	"strconv"
	"strings"
)

// Error codes of chapter 1.
const (
	ErrNone = iota
	ErrInvalid
	ErrRange
	ErrLimit
	ErrNotFound
	ErrState
	ErrSyntax
)

// Limits of chapter 1.
const (
	MaxSize     = 3
	MaxProducts = 30
)

// Form is described in chapter 1.
type Form [9]byte

// Product is described in chapter 1.
type Product struct {
	A Form
	B Form
	C Form
}

// Scheme is described in chapter 1.
type Scheme struct {
	Prime    int64
	Rows     int64
	Inner    int64
	Cols     int64
	Products []Product
}

// shape tells the size of a matrix that a form is for.
type shape struct {
	rows int64
	cols int64
}

func (s shape) places() int64 { return s.rows * s.cols }

// sizes are the numbers of rows, of inner ones and of columns that a scheme is for.
type sizes [3]int64

func sizesOf(x Scheme) sizes { return sizes{x.Rows, x.Inner, x.Cols} }

// shapes returns the shapes of the matrices X, Y and Z.
func (s sizes) shapes() [3]shape {
	return [3]shape{{s[0], s[1]}, {s[1], s[2]}, {s[0], s[2]}}
}

func shapesOf(x Scheme) [3]shape { return sizesOf(x).shapes() }

func factorsOf(q Product) [3]Form { return [3]Form{q.A, q.B, q.C} }

func productOf(factors [3]Form) Product {
	return Product{A: factors[0], B: factors[1], C: factors[2]}
}

func isPrime(p int64) bool { return p == 2 || p == 3 || p == 5 }

// isIndex reports whether i is in 0..count - 1.
func isIndex(i int64, count int64) bool { return 0 <= i && i < count }

func isSize(n int64) bool { return 1 <= n && n <= MaxSize }

// areAllowed reports whether a scheme may be for these sizes.
func (s sizes) areAllowed() bool { return isSize(s[0]) && isSize(s[1]) && isSize(s[2]) }

func isForm(p int64, s shape, f Form) bool {
	for place, number := range f {
		inside := int64(place) < s.places()
		if inside && int64(number) >= p || !inside && number != 0 {
			return false
		}
	}
	return true
}

// isFactor reports whether f is a form for this shape modulo p that is not 0 everywhere.
func isFactor(p int64, s shape, f Form) bool { return f != (Form{}) && isForm(p, s, f) }

// isProduct reports whether q has forms for these shapes modulo p, none of them 0 everywhere.
func isProduct(p int64, shapes [3]shape, q Product) bool {
	for i, f := range factorsOf(q) {
		if !isFactor(p, shapes[i], f) {
			return false
		}
	}
	return true
}

// areProducts reports whether a list has at most MaxProducts products for these shapes modulo p.
func areProducts(p int64, shapes [3]shape, products []Product) bool {
	if len(products) > MaxProducts {
		return false
	}
	return !slices.ContainsFunc(products, func(q Product) bool { return !isProduct(p, shapes, q) })
}

// isProductFor reports whether q may be a product of x, which has a prime and sizes as a scheme has.
func isProductFor(x Scheme, q Product) bool { return isProduct(x.Prime, shapesOf(x), q) }

// IsScheme reports whether x is a scheme.
func IsScheme(x Scheme) bool {
	if !isPrime(x.Prime) || !sizesOf(x).areAllowed() {
		return false
	}
	return areProducts(x.Prime, shapesOf(x), x.Products)
}

// StandardScheme returns the standard scheme, and ErrNone. (ErrInvalid is not returned; ErrRange
// also if p is no prime.)
func StandardScheme(p int64, n int64, m int64, k int64) (Scheme, int64) {
	x := Scheme{Prime: p, Rows: n, Inner: m, Cols: k}
	if !IsScheme(x) {
		return Scheme{}, ErrRange
	}
	for i := range n {
		for j := range m {
			for l := range k {
				x.Products = append(x.Products, Product{
					A: unitForm(i*m + j),
					B: unitForm(j*k + l),
					C: unitForm(i*k + l),
				})
			}
		}
	}
	return x, ErrNone
}

// unitForm returns the form with 1 at a place, and 0 elsewhere.
func unitForm(place int64) Form {
	var f Form
	f[place] = 1
	return f
}

// isEquation reports whether a, b and c are places of X, of Y and of Z.
func isEquation(x Scheme, a int64, b int64, c int64) bool {
	shapes := shapesOf(x)
	return isIndex(a, shapes[0].places()) && isIndex(b, shapes[1].places()) && isIndex(c, shapes[2].places())
}

// sumsAt returns the form that has at each c the sum, over all products, of the numbers of A at a, of B
// at b and of C at c, multiplied.
func sumsAt(p int64, products []Product, a int64, b int64) Form {
	var sums Form
	for _, q := range products {
		factor := int64(q.A[a]) * int64(q.B[b])
		for c, number := range q.C {
			sums[c] = byte((int64(sums[c]) + factor*int64(number)) % p)
		}
	}
	return sums
}

// leftSides returns the left sides of the equations of a and b, with that of c at the place c.
func leftSides(x Scheme, a int64, b int64) Form { return sumsAt(x.Prime, x.Products, a, b) }

// rightSides returns the right sides of the equations of a and b, with that of c at the place c.
func rightSides(x Scheme, a int64, b int64) Form {
	row, inner := a/x.Inner, a%x.Inner
	innerToo, col := b/x.Cols, b%x.Cols
	if inner != innerToo {
		return Form{}
	}
	return unitForm(row*x.Cols + col)
}

// sideAt returns what sides tells of the equation of the places a, b and c, and ErrNone.
func sideAt(x Scheme, a int64, b int64, c int64, sides func(Scheme, int64, int64) Form) (int64, int64) {
	if !IsScheme(x) {
		return 0, ErrInvalid
	}
	if !isEquation(x, a, b, c) {
		return 0, ErrRange
	}
	return int64(sides(x, a, b)[c]), ErrNone
}

// LeftSide returns the left side of the equation of the places a, b and c, and ErrNone.
func LeftSide(x Scheme, a int64, b int64, c int64) (int64, int64) {
	return sideAt(x, a, b, c, leftSides)
}

// RightSide returns the right side of the equation of the places a, b and c, and ErrNone.
func RightSide(x Scheme, a int64, b int64, c int64) (int64, int64) {
	return sideAt(x, a, b, c, rightSides)
}

// firstWrong returns the places of the first equation that does not hold, or nothing.
func firstWrong(x Scheme) []int64 {
	var first []int64
	shapes := shapesOf(x)
search:
	for a := int64(0); a < shapes[0].places() && first == nil; a++ {
		for b := range shapes[1].places() {
			left, right := leftSides(x, a, b), rightSides(x, a, b)
			for c := range shapes[2].places() {
				if left[c] != right[c] {
					first = []int64{a, b, c}
					continue search
				}
			}
		}
	}
	return first
}

// IsCorrect reports whether x is correct, and returns ErrNone.
func IsCorrect(x Scheme) (bool, int64) {
	if !IsScheme(x) {
		return false, ErrInvalid
	}
	return firstWrong(x) == nil, ErrNone
}

// FirstWrong returns the places a, b and c of the first equation, in lexicographic order, that
// does not hold, and ErrNone. Errors: ErrNotFound if there is none.
func FirstWrong(x Scheme) ([]int64, int64) {
	if !IsScheme(x) {
		return nil, ErrInvalid
	}
	first := firstWrong(x)
	if first == nil {
		return nil, ErrNotFound
	}
	return first, ErrNone
}

// CountWrong returns how many equations do not hold, and ErrNone.
func CountWrong(x Scheme) (int64, int64) {
	if !IsScheme(x) {
		return 0, ErrInvalid
	}
	count := int64(0)
	shapes := shapesOf(x)
	for a := range shapes[0].places() {
		for b := range shapes[1].places() {
			count += countDifferent(leftSides(x, a, b), rightSides(x, a, b))
		}
	}
	return count, ErrNone
}

// countDifferent returns at how many places two forms differ.
func countDifferent(f Form, g Form) int64 {
	count := int64(0)
	for place := range f {
		if f[place] != g[place] {
			count++
		}
	}
	return count
}

// isList reports whether a list has count elements, all of them numbers modulo p.
func isList(p int64, count int64, list []int64) bool {
	if int64(len(list)) != count {
		return false
	}
	return !slices.ContainsFunc(list, func(number int64) bool { return !isIndex(number, p) })
}

// isMatrix reports whether rows are a matrix of a shape with numbers modulo p.
func isMatrix(p int64, s shape, rows [][]int64) bool {
	if int64(len(rows)) != s.rows {
		return false
	}
	return !slices.ContainsFunc(rows, func(row []int64) bool { return !isList(p, s.cols, row) })
}

// zeroMatrix returns a matrix with rows of their own memory.
func zeroMatrix(s shape) [][]int64 {
	rows := make([][]int64, s.rows)
	for i := range rows {
		rows[i] = make([]int64, s.cols)
	}
	return rows
}

// sumOfForm returns the sum of the numbers of a form times the entries of a matrix.
func sumOfForm(f Form, rows [][]int64) int64 {
	sum := int64(0)
	for place, entry := range slices.Concat(rows...) {
		sum += int64(f[place]) * entry
	}
	return sum
}

// MakeProduct returns what x makes of two matrices, lists of rows of numbers modulo p, and
// ErrNone.
func MakeProduct(x Scheme, left [][]int64, right [][]int64) ([][]int64, int64) {
	if !IsScheme(x) {
		return nil, ErrInvalid
	}
	shapes := shapesOf(x)
	if !isMatrix(x.Prime, shapes[0], left) || !isMatrix(x.Prime, shapes[1], right) {
		return nil, ErrRange
	}
	made := zeroMatrix(shapes[2])
	for _, q := range x.Products {
		value := sumOfForm(q.A, left) * sumOfForm(q.B, right)
		for c := range shapes[2].places() {
			entry := &made[c/x.Cols][c%x.Cols]
			*entry = (*entry + int64(q.C[c])*value) % x.Prime
		}
	}
	return made, ErrNone
}

// shapeOfRows returns the numbers of rows and of columns of rows, as their first row tells them.
func shapeOfRows(rows [][]int64) shape {
	if len(rows) == 0 {
		return shape{}
	}
	return shape{int64(len(rows)), int64(len(rows[0]))}
}

// isSmallMatrix reports whether rows are a matrix of 1 to MaxSize rows and columns modulo p.
func isSmallMatrix(p int64, rows [][]int64) bool {
	s := shapeOfRows(rows)
	return isSize(s.rows) && isSize(s.cols) && isMatrix(p, s, rows)
}

// PlainProduct returns the product of two matrices, lists of rows of numbers modulo p of 1 to
// MaxSize rows and columns, modulo p, and ErrNone. (ErrInvalid is not returned; ErrRange also if p
// is no prime, or the numbers of columns and of rows do not fit.)
func PlainProduct(p int64, left [][]int64, right [][]int64) ([][]int64, int64) {
	if !isPrime(p) || !isSmallMatrix(p, left) || !isSmallMatrix(p, right) {
		return nil, ErrRange
	}
	first, second := shapeOfRows(left), shapeOfRows(right)
	if first.cols != second.rows {
		return nil, ErrRange
	}
	made := zeroMatrix(shape{first.rows, second.cols})
	for i, row := range made {
		for l := range row {
			for j := range first.cols {
				row[l] = (row[l] + left[i][j]*right[j][l]) % p
			}
		}
	}
	return made, ErrNone
}

// rowsOfForm returns the matrix of the numbers of a form, with rows of their own memory.
func rowsOfForm(s shape, f Form) [][]int64 {
	rows := zeroMatrix(s)
	for place := range s.places() {
		rows[place/s.cols][place%s.cols] = int64(f[place])
	}
	return rows
}

// residue is a type that numbers modulo p have: bytes in forms, integers in lists.
type residue interface{ byte | int64 }

// cutIntoRows returns a list as rows of cols numbers. They are parts of it, each without room behind
// it, so that nothing that is put behind a row comes into the next one.
func cutIntoRows[N residue](list []N, cols int64) [][]N {
	var rows [][]N
	for from := int64(0); from < int64(len(list)); from += cols {
		rows = append(rows, list[from:from+cols:from+cols])
	}
	return rows
}

// rankOfRows returns the rank modulo p of rows of cols numbers, which it changes.
func rankOfRows[N residue](p N, rows [][]N, cols int64) int64 {
	rank := int64(0)
	for col := range cols {
		pivot := slices.IndexFunc(rows[rank:], func(row []N) bool { return row[col] != 0 })
		if pivot < 0 {
			continue
		}
		at := rank + int64(pivot)
		rows[rank], rows[at] = rows[at], rows[rank]
		clearColumn(p, rows[rank], rows[rank+1:], col)
		rank++
	}
	return rank
}

// clearColumn subtracts a row from others so that they have 0 in a column where the row has not.
// It multiplies the others by the number of the row there, which spares a division modulo p.
func clearColumn[N residue](p N, row []N, others [][]N, col int64) {
	for _, other := range others {
		factor := other[col]
		for at, number := range row {
			other[at] = (other[at]*row[col] + (p-factor)*number) % p
		}
	}
}

// rankOfForm returns the rank modulo p of the matrix of the numbers of a form.
func rankOfForm(p int64, s shape, f Form) int64 {
	return rankOfRows(byte(p), cutIntoRows(f[:s.places()], s.cols), s.cols)
}

// RanksOf returns, for each product in order, the list of the ranks of A, B and C, and ErrNone.
func RanksOf(x Scheme) ([][]int64, int64) {
	if !IsScheme(x) {
		return nil, ErrInvalid
	}
	shapes := shapesOf(x)
	// The same forms stand in many products; the rank of each is found once for each factor.
	known := [3]map[Form]int64{{}, {}, {}}
	ranks := zeroMatrix(shape{int64(len(x.Products)), 3})
	for i, q := range x.Products {
		for which, f := range factorsOf(q) {
			rank, found := known[which][f]
			if !found {
				rank = rankOfForm(x.Prime, shapes[which], f)
				known[which][f] = rank
			}
			ranks[i][which] = rank
		}
	}
	return ranks, ErrNone
}

// compareProducts compares the texts of two products of one scheme: the texts have equal lengths,
// and their digits stand in the order of the numbers, so that the forms tell the same.
func compareProducts(q Product, r Product) int {
	return cmp.Or(
		bytes.Compare(q.A[:], r.A[:]),
		bytes.Compare(q.B[:], r.B[:]),
		bytes.Compare(q.C[:], r.C[:]),
	)
}

// withProducts returns a scheme with the prime and the sizes of x, and products of new memory.
func withProducts(x Scheme, lists ...[]Product) Scheme {
	x.Products = slices.Concat(lists...)
	return x
}

// sortedProducts returns products in the order of their texts, in new memory.
func sortedProducts(products []Product) []Product {
	sorted := slices.Clone(products)
	slices.SortFunc(sorted, compareProducts)
	return sorted
}

// SortScheme returns the sorted scheme with the products of x, and ErrNone.
func SortScheme(x Scheme) (Scheme, int64) {
	if !IsScheme(x) {
		return Scheme{}, ErrInvalid
	}
	x.Products = sortedProducts(x.Products)
	return x, ErrNone
}

// AddProduct returns x with q behind its products, and ErrNone. Errors: ErrInvalid also if q is no
// product for x; ErrLimit if x has MaxProducts products.
func AddProduct(x Scheme, q Product) (Scheme, int64) {
	if !IsScheme(x) || !isProductFor(x, q) {
		return Scheme{}, ErrInvalid
	}
	if len(x.Products) == MaxProducts {
		return Scheme{}, ErrLimit
	}
	return withProducts(x, x.Products, []Product{q}), ErrNone
}

// WithoutProduct returns x without the product i, from 0 on, and ErrNone.
func WithoutProduct(x Scheme, i int64) (Scheme, int64) {
	if !IsScheme(x) {
		return Scheme{}, ErrInvalid
	}
	if !isIndex(i, int64(len(x.Products))) {
		return Scheme{}, ErrRange
	}
	return withProducts(x, x.Products[:i], x.Products[i+1:]), ErrNone
}

// textOfForm returns the digits of the numbers of a form at its places.
func textOfForm(s shape, f Form) string {
	digits := make([]byte, s.places())
	for place := range digits {
		digits[place] = '0' + f[place]
	}
	return string(digits)
}

func textOfProduct(x Scheme, q Product) string {
	shapes := shapesOf(x)
	return textOfForm(shapes[0], q.A) + "*" + textOfForm(shapes[1], q.B) + "*" + textOfForm(shapes[2], q.C)
}

// SchemeText returns the text of x, and ErrNone.
func SchemeText(x Scheme) (string, int64) {
	if !IsScheme(x) {
		return "", ErrInvalid
	}
	var counts []string
	for _, size := range sizesOf(x) {
		counts = append(counts, strconv.FormatInt(size, 10))
	}
	products := make([]string, len(x.Products))
	for i, q := range x.Products {
		products[i] = textOfProduct(x, q)
	}
	head := strconv.FormatInt(x.Prime, 10) + ":" + strings.Join(counts, "x") + ";"
	return head + strings.Join(products, "+"), ErrNone
}

// parseHead returns the scheme without products whose text is head and a semicolon behind it.
func parseHead(head string) (Scheme, bool) {
	if len(head) != 7 || head[1] != ':' || head[3] != 'x' || head[5] != 'x' {
		return Scheme{}, false
	}
	digit := func(at int) int64 { return int64(head[at]) - '0' }
	x := Scheme{Prime: digit(0), Rows: digit(2), Inner: digit(4), Cols: digit(6)}
	return x, IsScheme(x)
}

// parseForm returns the numbers whose digits are a text. A byte that is no digit becomes a number
// that no form has, because bytes less than '0' wrap around.
func parseForm(s shape, text string) (Form, bool) {
	if int64(len(text)) != s.places() {
		return Form{}, false
	}
	numbers := make([]byte, len(Form{}))
	for place := range len(text) {
		numbers[place] = text[place] - '0'
	}
	return Form(numbers), true
}

func parseProduct(x Scheme, text string) (Product, bool) {
	shapes := shapesOf(x)
	parts := strings.Split(text, "*")
	if len(parts) != len(shapes) {
		return Product{}, false
	}
	var factors [3]Form
	for which, part := range parts {
		f, ok := parseForm(shapes[which], part)
		if !ok {
			return Product{}, false
		}
		factors[which] = f
	}
	q := productOf(factors)
	return q, isProductFor(x, q)
}

// ParseScheme returns the scheme with a text, and ErrNone. Errors: ErrSyntax if there is none. (No
// other errors are returned.)
func ParseScheme(text string) (Scheme, int64) {
	head, rest, found := strings.Cut(text, ";")
	x, ok := parseHead(head)
	if !found || !ok {
		return Scheme{}, ErrSyntax
	}
	if rest == "" {
		return x, ErrNone
	}
	for part := range strings.SplitSeq(rest, "+") {
		q, ok := parseProduct(x, part)
		if !ok || len(x.Products) == MaxProducts {
			return Scheme{}, ErrSyntax
		}
		x.Products = append(x.Products, q)
	}
	return x, ErrNone
}
