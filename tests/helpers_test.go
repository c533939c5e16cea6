package tests

import (
	"fmt"
	"reflect"
	"runtime"
	"strings"
	"testing"
	"time"

	"loop.example/g01262/impl"
)

var primes = []int64{2, 3, 5}

// notPrimes are values that are no prime here; some are one in their lowest byte.
var notPrimes = []int64{0, 1, 4, 6, 7, -1, -2, -3, -5, 9, 25, 258, 259, 261, 1 << 32, 1<<63 - 1, -1 << 63}

// notSizes are values that are no size; some are one in their lowest bytes.
var notSizes = []int64{0, 4, -1, -2, 257, 1<<32 + 1, 1<<63 - 1, -1 << 63}

// sequence gives numbers that look random, and are the same in each run.
type sequence struct{ state uint64 }

func (s *sequence) below(n int64) int64 {
	s.state = s.state*6364136223846793005 + 1442695040888963407
	return int64(s.state>>33) % n
}

// eachSize calls do for each prime and each triple of sizes.
func eachSize(do func(p, n, m, k int64)) {
	for _, p := range primes {
		for n := int64(1); n <= 3; n++ {
			for m := int64(1); m <= 3; m++ {
				for k := int64(1); k <= 3; k++ {
					do(p, n, m, k)
				}
			}
		}
	}
}

// someForm returns a form of a number of places that is not 0 everywhere.
func someForm(s *sequence, p, places int64) impl.Form {
	var f impl.Form
	for f == (impl.Form{}) {
		for at := int64(0); at < places; at++ {
			f[at] = byte(s.below(p))
		}
	}
	return f
}

func someProduct(s *sequence, p, n, m, k int64) impl.Product {
	return impl.Product{A: someForm(s, p, n*m), B: someForm(s, p, m*k), C: someForm(s, p, n*k)}
}

// someScheme returns a scheme that is hardly ever correct.
func someScheme(s *sequence, p, n, m, k int64, products int) impl.Scheme {
	x := impl.Scheme{Prime: p, Rows: n, Inner: m, Cols: k}
	for len(x.Products) < products {
		x.Products = append(x.Products, someProduct(s, p, n, m, k))
	}
	return x
}

func someMatrix(s *sequence, p, rows, cols int64) [][]int64 {
	list := make([][]int64, rows)
	for i := range list {
		list[i] = make([]int64, cols)
		for j := range list[i] {
			list[i][j] = s.below(p)
		}
	}
	return list
}

// matrixOf returns the matrix whose entries are the digits of a number to the base p.
func matrixOf(number, p, rows, cols int64) [][]int64 {
	list := make([][]int64, rows)
	for i := range list {
		list[i] = make([]int64, cols)
		for j := range list[i] {
			list[i][j] = number % p
			number /= p
		}
	}
	return list
}

func power(base, exponent int64) int64 {
	result := int64(1)
	for range exponent {
		result *= base
	}
	return result
}

// makeForm returns the form whose numbers are the digits of a text; m stands for p - 1.
func makeForm(p int64, digits string) impl.Form {
	var f impl.Form
	for at, digit := range digits {
		f[at] = byte(digit - '0')
		if digit == 'm' {
			f[at] = byte(p - 1)
		}
	}
	return f
}

// makeScheme returns the scheme of products written as "A B C; A B C".
func makeScheme(p, n, m, k int64, products string) impl.Scheme {
	x := impl.Scheme{Prime: p, Rows: n, Inner: m, Cols: k}
	for _, product := range strings.Split(products, ";") {
		parts := strings.Fields(product)
		x.Products = append(x.Products, impl.Product{A: makeForm(p, parts[0]), B: makeForm(p, parts[1]), C: makeForm(p, parts[2])})
	}
	return x
}

// strassen and winograd return the correct schemes of seven products of chapter 2.
func strassen(p int64) impl.Scheme {
	return makeScheme(p, 2, 2, 2, "1001 1001 1001; 0011 1000 001m; 1000 010m 0101; 0001 m010 1010; 1100 0001 m100; m010 1100 0001; 010m 0011 1000")
}

func winograd(p int64) impl.Scheme {
	return makeScheme(p, 2, 2, 2, "1000 1000 1111; 0100 0010 1000; m011 1m01 0111; 0011 m100 0101; 10m0 0m01 0011; 0001 1mm1 00m0; 11mm 0001 0100")
}

// standard returns the standard scheme, which the tests of StandardScheme compare with expectStandard.
func standard(t *testing.T, p, n, m, k int64) impl.Scheme {
	t.Helper()
	x, code := impl.StandardScheme(p, n, m, k)
	wantCode(t, fmt.Sprintf("StandardScheme(%d, %d, %d, %d)", p, n, m, k), code, impl.ErrNone)
	return x
}

func wantCode(t *testing.T, what string, code, want int64) {
	t.Helper()
	if code != want {
		t.Fatalf("%s: code %d, want %d", what, code, want)
	}
}

// wantSame compares two values; a nil slice is the same as an empty one.
func wantSame(t *testing.T, what string, got, want any) {
	t.Helper()
	if fmt.Sprintf("%T%v", got, got) != fmt.Sprintf("%T%v", want, want) {
		t.Fatalf("%s = %v, want %v", what, got, want)
	}
}

// wantError tests that a call returned a code and nothing else.
func wantError(t *testing.T, what string, result any, code, want int64) {
	t.Helper()
	wantCode(t, what, code, want)
	if !isZero(reflect.ValueOf(result)) {
		t.Fatalf("%s: result %v beside code %d", what, result, code)
	}
}

// isZero reports whether a value is the zero value of its type; an empty slice is one.
func isZero(v reflect.Value) bool {
	switch v.Kind() {
	case reflect.Slice:
		return v.Len() == 0
	case reflect.Struct:
		for i := range v.NumField() {
			if !isZero(v.Field(i)) {
				return false
			}
		}
		return true
	}
	return v.IsZero()
}

// pack makes the results of a call one value and a code.
func pack[T any](result T, code int64) (any, int64) { return result, code }

// wantGoroutines tests that there are no more goroutines than before some calls, after a wait.
func wantGoroutines(t *testing.T, before int) {
	t.Helper()
	for range 100 {
		if runtime.NumGoroutine() <= before {
			return
		}
		time.Sleep(10 * time.Millisecond)
	}
	t.Fatalf("%d goroutines, and %d before the calls", runtime.NumGoroutine(), before)
}
