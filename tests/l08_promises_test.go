package tests

import (
	"fmt"
	"slices"
	"testing"

	"loop.example/g01262/impl"
)

// Promise 8: raising adds 1 to the order of border schemes, and exact schemes of correct ones are correct.
// Promise 14, of chapter 8: border schemes of schemes have these as values.

// borderOf returns the border scheme of a scheme.
func borderOf(t *testing.T, x impl.Scheme) impl.Border {
	t.Helper()
	made, code := impl.BorderOfScheme(x)
	wantBorder(t, fmt.Sprint("BorderOfScheme of ", x), made, code, expectBorderOf(x))
	return made
}

// wantBorder tests that a function made a border scheme.
func wantBorder(t *testing.T, what string, made impl.Border, code int64, want impl.Border) {
	t.Helper()
	if code != impl.ErrNone || !sameBorder(made, want) {
		t.Fatalf("%s = %v, %d, want %v", what, made, code, want)
	}
	if !impl.IsBorder(made) || !expectBorder(made) {
		t.Fatalf("%s = %v, which is no border scheme", what, made)
	}
}

// orderOf returns the order of a border scheme, or -1 if there is none.
func orderOf(t *testing.T, x impl.Border) int64 {
	t.Helper()
	order, code := impl.OrderOfBorder(x)
	if code == impl.ErrNotFound {
		wantError(t, "OrderOfBorder", order, code, impl.ErrNotFound)
		return -1
	}
	wantCode(t, fmt.Sprint("OrderOfBorder of ", x), code, impl.ErrNone)
	return order
}

// wantOrder tests the order of a border scheme.
func wantOrder(t *testing.T, what string, x impl.Border, want int64) {
	t.Helper()
	if order := orderOf(t, x); order != want {
		t.Fatalf("%s: order %d of %v, want %d", what, order, x, want)
	}
}

// wantCorrectBorder tests that a border scheme is correct of the order h, and of no other one.
func wantCorrectBorder(t *testing.T, what string, x impl.Border, h int64) {
	t.Helper()
	wantOrder(t, what, x, h)
	for d := range int64(10) {
		if correct, code := impl.IsBorderCorrect(x, d); correct != (d == h) || code != impl.ErrNone {
			t.Fatalf("%s: IsBorderCorrect of %v and %d = %v, %d, but it should be correct of the order %d", what, x, d, correct, code, h)
		}
	}
}

// TestBordersThatShouldBeCorrect looks whether those are correct with which the promise is tested.
func TestBordersThatShouldBeCorrect(t *testing.T) {
	lifted := 0
	eachCorrectBorder(func(s *sequence, border correctBorder) {
		if !expectBorder(border.x) || !expectBorderCorrect(border.x)[border.h] {
			t.Fatalf("the border scheme %s is not correct: %v", border.name, border.x)
		}
		if len(expectExact(border.x, border.h).Products) > len(border.x.Twigs) {
			lifted++
		}
	})
	if lifted < 100 {
		t.Fatalf("only %d border schemes have more products than twigs", lifted)
	}
}

func TestPromise8BordersOfCorrectSchemes(t *testing.T) {
	eachCorrect(func(s *sequence, x impl.Scheme) {
		wantCorrectBorder(t, "of a correct scheme", borderOf(t, x), 0)
		wantCorrectBorder(t, "of a changed scheme", borderOf(t, expectChanged(x, someTriple(s, x))), 0)
	})
	for _, p := range primes {
		for n := int64(2); n <= 3; n++ {
			for _, x := range correctSquares(p, n) {
				wantCorrectBorder(t, "of a square scheme", borderOf(t, x), 0)
			}
		}
	}
}

// TestPromise8BordersOfOtherSchemes tests that border schemes of schemes are correct only if these are.
func TestPromise8BordersOfOtherSchemes(t *testing.T) {
	eachSchemeToMove(func(s *sequence, x impl.Scheme) {
		scheme, code := impl.IsCorrect(x)
		wantCode(t, "IsCorrect", code, impl.ErrNone)
		border, code := impl.IsBorderCorrect(borderOf(t, x), 0)
		wantCode(t, "IsBorderCorrect", code, impl.ErrNone)
		wantSame(t, fmt.Sprint("IsBorderCorrect of the border scheme of ", x), border, scheme)
	})
}

func TestPromise8CorrectOfTheirOrders(t *testing.T) {
	eachCorrectBorder(func(s *sequence, border correctBorder) {
		wantCorrectBorder(t, border.name, border.x, border.h)
	})
}

// raise returns a raised border scheme, and false if a series would need e^4.
func raise(t *testing.T, x impl.Border, which int64) (impl.Border, bool) {
	t.Helper()
	made, code := impl.RaiseBorder(x, which)
	want, fits := expectRaised(x, int(which))
	if !fits {
		wantError(t, "RaiseBorder", made, code, impl.ErrLimit)
		return impl.Border{}, false
	}
	wantBorder(t, fmt.Sprint("RaiseBorder of ", x, which), made, code, want)
	return made, true
}

// TestPromise8RaisingAddsOne raises the same series and others, until there is no room. (Without twigs there
// is always room.)
func TestPromise8RaisingAddsOne(t *testing.T) {
	raised := 0
	eachSmallBorder(func(s *sequence, x impl.Border) {
		order := orderOf(t, x)
		for first := range int64(3) {
			made, fits := raise(t, x, first)
			for times := int64(1); fits && times < 10; times++ {
				want := order + times
				if order < 0 {
					want = -1
				}
				wantOrder(t, fmt.Sprint("raised ", times, " times"), made, want)
				made, fits = raise(t, made, (first+s.below(2)*times)%3)
				raised++
			}
		}
	})
	if raised < 1000 {
		t.Fatalf("only %d border schemes were raised", raised)
	}
}

// TestPromise8RaisedStayCorrect raises correct border schemes as often as there is room.
func TestPromise8RaisedStayCorrect(t *testing.T) {
	eachCorrectBorder(func(s *sequence, border correctBorder) {
		for which := range int64(3) {
			made, fits := raise(t, border.x, which)
			for h := border.h + 1; fits; h++ {
				wantCorrectBorder(t, border.name+", raised", made, h)
				wantExact(t, made, h)
				made, fits = raise(t, made, which)
			}
		}
	})
}

// TestPromise8RaisedNineTimes raises border schemes of correct schemes up to the order 9, in all orders of
// the three series, and then no more.
func TestPromise8RaisedNineTimes(t *testing.T) {
	s := &sequence{}
	eachSize(func(p, n, m, k int64) {
		for _, x := range correctSchemes(p, n, m, k) {
			made, times := borderOf(t, x), [3]int64{}
			for h := int64(0); h < 9; h++ {
				which := s.below(3)
				for times[which] == 3 {
					which = (which + 1) % 3
				}
				times[which]++
				raised, fits := raise(t, made, which)
				wantSame(t, "RaiseBorder has room", fits, true)
				wantCorrectBorder(t, "raised", raised, h+1)
				made = raised
			}
			for which := range int64(3) {
				_, fits := raise(t, made, which)
				wantSame(t, "RaiseBorder has room behind nine times", fits, false)
			}
			exact, code := impl.ExactScheme(made, 9)
			wantCode(t, "ExactScheme", code, impl.ErrNone)
			wantScheme(t, "ExactScheme of one raised nine times", x, exact, x)
		}
	})
}

// stretch returns a stretched border scheme.
func stretch(t *testing.T, x impl.Border, v int64) impl.Border {
	t.Helper()
	made, code := impl.StretchBorder(x, v)
	wantBorder(t, fmt.Sprint("StretchBorder of ", x, v), made, code, expectStretched(x, v))
	return made
}

func TestPromise8StretchingKeepsTheOrder(t *testing.T) {
	eachSmallBorder(func(s *sequence, x impl.Border) {
		order := orderOf(t, x)
		for v := int64(1); v < x.Prime; v++ {
			made := stretch(t, x, v)
			wantOrder(t, fmt.Sprint("stretched by ", v), made, order)
			back := stretch(t, made, dividedBy(x.Prime, 1, v))
			wantBorder(t, "StretchBorder there and back", back, impl.ErrNone, x)
		}
		wantBorder(t, "StretchBorder by 1", stretch(t, x, 1), impl.ErrNone, x)
	})
}

// TestPromise8StretchedCorrectness tests that border schemes that are correct of the order h stay so if
// v^h is 1, and only then: stretching multiplies the coefficients of e^h by it.
func TestPromise8StretchedCorrectness(t *testing.T) {
	eachCorrectBorder(func(s *sequence, border correctBorder) {
		p, h := border.x.Prime, border.h
		for v := int64(1); v < p; v++ {
			made := stretch(t, border.x, v)
			if power(v, h)%p == 1 {
				wantCorrectBorder(t, border.name+", stretched", made, h)
				wantExact(t, made, h)
				continue
			}
			wantOrder(t, border.name+", stretched", made, h)
			correct, code := impl.IsBorderCorrect(made, h)
			if correct || code != impl.ErrNone {
				t.Fatalf("IsBorderCorrect of %v and %d = %v, %d", made, h, correct, code)
			}
		}
	})
}

// TestPromise14ValuesOfBordersOfSchemes has correct schemes and others, with all numbers of products.
func TestPromise14ValuesOfBordersOfSchemes(t *testing.T) {
	check := func(s *sequence, x impl.Scheme) {
		made := borderOf(t, x)
		for v := range x.Prime {
			value, code := impl.ValueOfBorder(made, v)
			wantCode(t, "ValueOfBorder", code, impl.ErrNone)
			wantScheme(t, fmt.Sprint("ValueOfBorder at ", v, " of the border scheme"), x, value, x)
		}
	}
	eachSchemeToMove(check)
	s := &sequence{}
	for _, p := range primes {
		check(s, someScheme(s, p, 3, 3, 3, impl.MaxProducts))
		check(s, someScheme(s, p, 1, 2, 3, impl.MaxProducts))
	}
}

// wantExact tests the exact scheme of a border scheme that is correct of the order h, and reports whether
// there is one.
func wantExact(t *testing.T, x impl.Border, h int64) bool {
	t.Helper()
	count, code := impl.CountExact(x, h)
	wantCode(t, "CountExact", code, impl.ErrNone)
	made, code := impl.ExactScheme(x, h)
	if count > impl.MaxProducts {
		wantError(t, "ExactScheme", made, code, impl.ErrLimit)
		return false
	}
	wantCode(t, "ExactScheme", code, impl.ErrNone)
	if int64(len(made.Products)) != count {
		t.Fatalf("ExactScheme of %v and %d has %d products, but CountExact is %d", x, h, len(made.Products), count)
	}
	correct, code := impl.IsCorrect(made)
	if !correct || code != impl.ErrNone || len(expectWrong(made)) > 0 {
		t.Fatalf("ExactScheme of %v and %d = %v, which is not correct", x, h, made)
	}
	return true
}

func TestPromise8ExactSchemesAreCorrect(t *testing.T) {
	made, more := 0, 0
	eachCorrectBorder(func(s *sequence, border correctBorder) {
		if wantExact(t, border.x, border.h) {
			made++
			number, _ := impl.CountExact(border.x, border.h)
			more += count(number > int64(len(border.x.Twigs)))
		}
	})
	if made < 1000 || more < 100 {
		t.Fatalf("only %d exact schemes were made, %d of them with more products than twigs", made, more)
	}
}

// TestPromise8ExactSchemesOfOthers tests that the left sides of exact schemes are the coefficients, so that
// they are correct only where these are the right sides.
func TestPromise8ExactSchemesOfOthers(t *testing.T) {
	eachSmallBorder(func(s *sequence, x impl.Border) {
		for h := range int64(10) {
			made, code := impl.ExactScheme(x, h)
			if code == impl.ErrLimit {
				continue
			}
			wantCode(t, "ExactScheme", code, impl.ErrNone)
			if sums, want := expectSums(made), expectCoefficients(x, h); !slices.Equal(sums, want) {
				t.Fatalf("ExactScheme of %v and %d has the left sides %v, want %v", x, h, sums, want)
			}
		}
	})
}

// TestPromise8BinisBorderScheme has ten twigs, where no scheme known here has fewer than eleven products.
// The numbers of products of its exact schemes were counted by hand.
func TestPromise8BinisBorderScheme(t *testing.T) {
	for _, p := range primes {
		x := bini(p)
		wantSame(t, "twigs", len(x.Twigs), 10)
		number, code := impl.JoinNumber(3, 2, 2)
		wantCode(t, "JoinNumber", code, impl.ErrNone)
		wantSame(t, "JoinNumber", number, int64(11))
		wantCorrectBorder(t, "Bini's", x, 1)
		for h, want := range []int64{10, 16, 6, 0, 0, 0, 0, 0, 0, 0} {
			count, code := impl.CountExact(x, int64(h))
			wantCode(t, "CountExact", code, impl.ErrNone)
			wantSame(t, fmt.Sprint("CountExact of ", h), count, want)
		}
		wantSame(t, "ExactScheme is made", wantExact(t, x, 1), true)
		powers, code := impl.LowestPowers(x)
		wantCode(t, "LowestPowers", code, impl.ErrNone)
		wantSame(t, "LowestPowers", powers, zeros(10, 3))
		raised, fits := raise(t, x, 1)
		wantSame(t, "RaiseBorder has room", fits, true)
		wantCorrectBorder(t, "Bini's, raised", raised, 2)
		wantSame(t, "ExactScheme is made", wantExact(t, raised, 2), true)
	}
}

// TestPromise8ValuesAreSumsOfCoefficients tests that the left sides of the value at v are the sums of the
// coefficients of e^d times v^d.
func TestPromise8ValuesAreSumsOfCoefficients(t *testing.T) {
	eachSmallBorder(func(s *sequence, x impl.Border) {
		var coefficients [10][]int64
		for d := range coefficients {
			coefficients[d] = expectCoefficients(x, int64(d))
		}
		for v := range x.Prime {
			value, code := impl.ValueOfBorder(x, v)
			wantCode(t, "ValueOfBorder", code, impl.ErrNone)
			for at, left := range expectSums(value) {
				sum := int64(0)
				for d := range coefficients {
					sum += coefficients[d][at] * power(v, int64(d))
				}
				if left != sum%x.Prime {
					t.Fatalf("ValueOfBorder of %v at %d = %v: the left side %d at %d, want %d", x, v, value, left, at, sum%x.Prime)
				}
			}
		}
	})
}
