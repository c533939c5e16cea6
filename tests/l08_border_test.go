package tests

import (
	"fmt"
	"runtime"
	"slices"
	"testing"

	"loop.example/g01262/impl"
)

func TestBordersAreBorders(t *testing.T) {
	eachBorder(func(s *sequence, x impl.Border) {
		if !impl.IsBorder(x) || !expectBorder(x) {
			t.Fatalf("IsBorder of %v is false", x)
		}
	})
	eachCorrectBorder(func(s *sequence, border correctBorder) {
		if !impl.IsBorder(border.x) {
			t.Fatalf("IsBorder of the border scheme %s is false: %v", border.name, border.x)
		}
	})
}

// TestIsBorderOfEachNumber puts numbers at each place and power of the first and of the last twig.
func TestIsBorderOfEachNumber(t *testing.T) {
	eachSize(func(p, n, m, k int64) {
		good := expectBorderOf(expectStandard(p, n, m, k))
		for at := range 3 * 9 * 4 {
			which, place, i := at/36, at/4%9, at%4
			for _, number := range []byte{0, 1, byte(p - 1), byte(p), byte(p + 1), 6, 128, 255} {
				for _, twig := range []int{0, len(good.Twigs) - 1} {
					x := good
					x.Twigs = slices.Clone(good.Twigs)
					seriesOf(&x.Twigs[twig], which)[place][i] = number
					if impl.IsBorder(x) != expectBorder(x) {
						t.Fatalf("IsBorder of %v is %v", x, impl.IsBorder(x))
					}
				}
			}
		}
	})
}

// TestOneNumberIsEnough tests that a series is not 0 everywhere if it has one number at any power.
func TestOneNumberIsEnough(t *testing.T) {
	eachSize(func(p, n, m, k int64) {
		x := impl.Border{Prime: p, Rows: n, Inner: m, Cols: k}
		for i := range int64(64) {
			powers := [3]int64{i / 16, i / 4 % 4, i % 4}
			x.Twigs = []impl.Twig{unitTwig(n*m-1, m*k-1, n*k-1, powers), unitTwig(0, 0, 0, powers)}
			wantSame(t, "IsBorder", impl.IsBorder(x), true)
			for which := range 3 {
				wrong := x
				wrong.Twigs = slices.Clone(x.Twigs)
				*seriesOf(&wrong.Twigs[1], which) = impl.Series{}
				wantSame(t, "IsBorder with a series that is 0 everywhere", impl.IsBorder(wrong), false)
			}
		}
	})
}

func TestBordersOfSchemes(t *testing.T) {
	eachSchemeToMove(func(s *sequence, x impl.Scheme) { borderOf(t, x) })
	eachSchemeToRun(func(s *sequence, x impl.Scheme) { borderOf(t, x) })
}

// wantCoefficients tests the coefficients of all powers at all places.
func wantCoefficients(t *testing.T, x impl.Border) {
	t.Helper()
	for d := range int64(10) {
		eachEquation(bareScheme(x), func(a, b, c int64) {
			number, code := impl.CoefficientAt(x, a, b, c, d)
			if want := expectCoefficient(x, a, b, c, d); number != want || code != impl.ErrNone {
				t.Fatalf("CoefficientAt of %v at %d, %d, %d and e^%d = %d, %d, want %d", x, a, b, c, d, number, code, want)
			}
		})
	}
}

func TestCoefficientsAtAllPlaces(t *testing.T) {
	s := &sequence{}
	eachSize(func(p, n, m, k int64) {
		wantCoefficients(t, someBorder(s, p, n, m, k, 0, 1))
		wantCoefficients(t, someBorder(s, p, n, m, k, 2, 1))
		wantCoefficients(t, someBorder(s, p, n, m, k, 4, 3))
		wantCoefficients(t, fullBorder(p, n, m, k, 1))
		if n*m*k <= 8 {
			for _, border := range correctBorders(s, p, n, m, k) {
				wantCoefficients(t, border.x)
			}
			wantCoefficients(t, someBorder(s, p, n, m, k, impl.MaxProducts, 1))
			wantCoefficients(t, fullBorder(p, n, m, k, impl.MaxProducts))
		}
	})
}

// TestCoefficientsOfUnits has twigs with one number in each series.
func TestCoefficientsOfUnits(t *testing.T) {
	for at := range int64(8 * 64) {
		a, b, c := at/256*3, at/128%2*5, at/64%2*3
		powers := [3]int64{at / 16 % 4, at / 4 % 4, at % 4}
		x := impl.Border{Prime: 5, Rows: 2, Inner: 2, Cols: 3, Twigs: []impl.Twig{unitTwig(a, b, c, powers)}}
		eachEquation(bareScheme(x), func(u, v, w int64) {
			for d := range int64(10) {
				number, code := impl.CoefficientAt(x, u, v, w, d)
				wantCode(t, "CoefficientAt", code, impl.ErrNone)
				if want := int64(count(u == a && v == b && w == c && d == powers[0]+powers[1]+powers[2])); number != want {
					t.Fatalf("CoefficientAt of %v at %d, %d, %d and e^%d = %d, want %d", x, u, v, w, d, number, want)
				}
			}
		})
	}
}

// The examples were found by hand: of (2 + 3e) (1 + 4e^2) (2 + e^3), modulo 5, and of two twigs.
var borderExamples = []struct {
	x            impl.Border
	coefficients []int64 // at the places 0, 0 and 0
	exact        map[int64]string
	lowest       [][]int64
	values       []string
}{
	{
		makeBorder(5, 1, 1, 1, "2/3 1/0/4 2/0/0/1"), []int64{4, 1, 1, 1, 3, 3, 2, 0, 0, 0},
		map[int64]string{0: "2 1 2", 1: "3 1 2", 2: "2 4 2", 3: "2 1 1; 3 4 2", 4: "3 1 1", 5: "2 4 1", 6: "3 4 1", 7: "", 8: "", 9: ""},
		[][]int64{{0, 0, 0}}, []string{"2 1 2", "", "", "1 2 4", ""},
	},
	{
		makeBorder(3, 1, 2, 1, "11/02 0/01/2 0/0/0/2; 0/0/21 10/00/0/12 0/1/1"), []int64{0, 0, 0, 2, 2, 1, 2, 2, 0, 0},
		map[int64]string{
			0: "", 1: "", 2: "", 3: "21 10 1", 4: "11 01 2; 21 10 1", 5: "11 20 2; 02 01 2", 6: "02 20 2; 21 12 1", 7: "21 12 1", 8: "", 9: "",
		},
		[][]int64{{0, 1, 3}, {2, 0, 1}}, []string{"", "10 21 2; 21 22 2", "12 22 1"},
	},
}

func TestBordersAsExamples(t *testing.T) {
	for _, example := range borderExamples {
		x := example.x
		for d, want := range example.coefficients {
			number, code := impl.CoefficientAt(x, 0, 0, 0, int64(d))
			wantCode(t, "CoefficientAt", code, impl.ErrNone)
			wantSame(t, fmt.Sprint("CoefficientAt of ", x, " and ", d), number, want)
		}
		for h, products := range example.exact {
			wantExactScheme(t, x, h, exampleScheme(x, products))
		}
		for v, products := range example.values {
			value, code := impl.ValueOfBorder(x, int64(v))
			wantCode(t, "ValueOfBorder", code, impl.ErrNone)
			wantScheme(t, fmt.Sprint("ValueOfBorder of ", x, " at ", v), bareScheme(x), value, exampleScheme(x, products))
		}
		powers, code := impl.LowestPowers(x)
		wantCode(t, "LowestPowers", code, impl.ErrNone)
		wantSame(t, "LowestPowers", powers, example.lowest)
	}
}

// exampleScheme returns the scheme of products written as for makeScheme, or of none.
func exampleScheme(x impl.Border, products string) impl.Scheme {
	if products == "" {
		return bareScheme(x)
	}
	return makeScheme(x.Prime, x.Rows, x.Inner, x.Cols, products)
}

// wantExactScheme tests an exact scheme and its number of products.
func wantExactScheme(t *testing.T, x impl.Border, h int64, want impl.Scheme) {
	t.Helper()
	count, code := impl.CountExact(x, h)
	if count != int64(len(want.Products)) || code != impl.ErrNone {
		t.Fatalf("CountExact of %v and %d = %d, %d, want %d", x, h, count, code, len(want.Products))
	}
	made, code := impl.ExactScheme(x, h)
	if count > impl.MaxProducts {
		wantError(t, fmt.Sprint("ExactScheme of ", count, " products"), made, code, impl.ErrLimit)
		return
	}
	if code != impl.ErrNone || !sameScheme(made, want) || !impl.IsScheme(made) {
		t.Fatalf("ExactScheme of %v and %d = %v, %d, want %v", x, h, made, code, want)
	}
}

func TestChangesOfEAsExamples(t *testing.T) {
	x := makeBorder(5, 1, 1, 1, "2/3 1/0/4 2/0/0/1")
	for which, want := range []string{"0/2/3 1/0/4 2/0/0/1", "2/3 0/1/0/4 2/0/0/1"} {
		made, code := impl.RaiseBorder(x, int64(which))
		wantBorder(t, "RaiseBorder", made, code, makeBorder(5, 1, 1, 1, want))
	}
	made, code := impl.RaiseBorder(x, 2)
	wantError(t, "RaiseBorder of the third series", made, code, impl.ErrLimit)
	for at, want := range []string{"2/3 1/0/4 2/0/0/1", "2/1 1/0/1 2/0/0/3", "2/4 1/0/1 2/0/0/2", "2/2 1/0/4 2/0/0/4"} {
		made, code := impl.StretchBorder(x, int64(at)+1)
		wantBorder(t, fmt.Sprint("StretchBorder by ", at+1), made, code, makeBorder(5, 1, 1, 1, want))
	}
	y := makeBorder(3, 1, 2, 1, "11/02 0/01/2 0/0/2; 0/0/21 10/00/02 0/1/1")
	for which, want := range []string{
		"0/11/02 0/01/2 0/0/2; 0/0/0/21 10/00/02 0/1/1", "11/02 0/0/01/2 0/0/2; 0/0/21 0/10/00/02 0/1/1", "11/02 0/01/2 0/0/0/2; 0/0/21 10/00/02 0/0/1/1",
	} {
		made, code := impl.RaiseBorder(y, int64(which))
		wantBorder(t, fmt.Sprint("RaiseBorder of ", which), made, code, makeBorder(3, 1, 2, 1, want))
	}
	made, code = impl.StretchBorder(y, 2)
	wantBorder(t, "StretchBorder by 2", made, code, makeBorder(3, 1, 2, 1, "11/01 0/02/2 0/0/2; 0/0/21 10/00/02 0/2/1"))
}

func TestOrdersAgainstAllCoefficients(t *testing.T) {
	eachBorder(func(s *sequence, x impl.Border) { wantOrder(t, "a border scheme", x, expectOrder(x)) })
}

// TestOrdersOfUnits has all orders: the first number other than 0 stands at any place and any power.
func TestOrdersOfUnits(t *testing.T) {
	s := &sequence{}
	eachSize(func(p, n, m, k int64) {
		for at := range int64(64) {
			powers := [3]int64{at / 16, at / 4 % 4, at % 4}
			twig := unitTwig(s.below(n*m), s.below(m*k), s.below(n*k), powers)
			x := impl.Border{Prime: p, Rows: n, Inner: m, Cols: k, Twigs: []impl.Twig{twig}}
			wantOrder(t, "a unit", x, powers[0]+powers[1]+powers[2])
			more := impl.Border{Prime: p, Rows: n, Inner: m, Cols: k, Twigs: []impl.Twig{twig}}
			for which, least := range powers {
				series := seriesOf(&more.Twigs[0], which)
				*series = lifted(s, p, placesOf(x)[which], formAt(*series, least), least)
			}
			wantOrder(t, "a unit and more", more, powers[0]+powers[1]+powers[2])
		}
	})
}

// TestOrdersOfCancelledTwigs has twigs as often as p, so that they lift each other, and one behind them at
// each power.
func TestOrdersOfCancelledTwigs(t *testing.T) {
	s := &sequence{}
	eachSize(func(p, n, m, k int64) {
		x := oftenTwigs(someBorder(s, p, n, m, k, 2, 2), int(p))
		wantOrder(t, "cancelled twigs", x, -1)
		wantOrder(t, "full cancelled twigs", fullBorder(p, n, m, k, int(p)), -1)
		wantOrder(t, "no twigs", bareBorder(bareScheme(x)), -1)
		for d := range int64(10) {
			twig := unitTwig(s.below(n*m), s.below(m*k), s.below(n*k), drawnPowers(s, d))
			y := x
			y.Twigs = append(slices.Clone(x.Twigs), twig)
			wantOrder(t, "cancelled twigs and one more", y, d)
		}
	})
}

// wantCorrectness tests IsBorderCorrect for all orders, and reports whether one holds.
func wantCorrectness(t *testing.T, what string, x impl.Border) bool {
	t.Helper()
	some := false
	for h, want := range expectBorderCorrect(x) {
		correct, code := impl.IsBorderCorrect(x, int64(h))
		if correct != want || code != impl.ErrNone {
			t.Fatalf("%s: IsBorderCorrect of %v and %d = %v, %d, want %v", what, x, h, correct, code, want)
		}
		some = some || correct
	}
	return some
}

func TestCorrectnessOfAnyBorders(t *testing.T) {
	correct, wrong := 0, 0
	eachSmallBorder(func(s *sequence, x impl.Border) {
		some := wantCorrectness(t, "a border scheme", x)
		correct, wrong = correct+count(some), wrong+count(!some)
	})
	if correct < 100 || wrong < 100 {
		t.Fatalf("only %d border schemes are correct, and %d are not", correct, wrong)
	}
}

// TestCorrectnessWithOneTwigMore puts a twig with one number behind those of correct border schemes: with
// a lower power than the order, with that of the order, with a greater one, and with two of these.
func TestCorrectnessWithOneTwigMore(t *testing.T) {
	eachCorrectBorder(func(s *sequence, border correctBorder) {
		x, places := border.x, placesOf(border.x)
		if len(x.Twigs) > impl.MaxProducts-2 || places[0]*places[1]*places[2] > 16 {
			return
		}
		for d := range int64(10) {
			one := unitTwig(s.below(places[0]), s.below(places[1]), s.below(places[2]), drawnPowers(s, d))
			two := unitTwig(s.below(places[0]), s.below(places[1]), s.below(places[2]), drawnPowers(s, border.h))
			y := x
			y.Twigs = append(slices.Clone(x.Twigs), one)
			some := wantCorrectness(t, border.name, y)
			// For the sizes 1, 1 and 1 one number is all that a correct one has.
			if places != [3]int64{1, 1, 1} {
				wantSame(t, fmt.Sprint(border.name, " with one more at ", d), some, d > border.h)
			}
			y.Twigs = append(y.Twigs, two)
			wantCorrectness(t, border.name, y)
		}
	})
}

// TestCorrectnessAtEachPlace puts a twig with one number at each place behind a correct border scheme, and
// takes one away.
func TestCorrectnessAtEachPlace(t *testing.T) {
	s := &sequence{}
	for _, p := range primes {
		for _, size := range [][3]int64{{1, 1, 1}, {2, 1, 2}, {1, 2, 3}, {2, 2, 2}} {
			for h := range int64(7) {
				x := risen(s, expectStandard(p, size[0], size[1], size[2]), h, true)
				for d := h / 2; d <= min(h+1, 9); d++ {
					eachEquation(bareScheme(x), func(a, b, c int64) {
						y := x
						y.Twigs = append(slices.Clone(x.Twigs), unitTwig(a, b, c, drawnPowers(s, d)))
						correct, code := impl.IsBorderCorrect(y, h)
						if correct != (d > h) || code != impl.ErrNone {
							t.Fatalf("IsBorderCorrect of %v and %d = %v, %d, with one at %d, %d, %d and e^%d", y, h, correct, code, a, b, c, d)
						}
					})
				}
				for at := range x.Twigs {
					y := x
					y.Twigs = slices.Delete(slices.Clone(x.Twigs), at, at+1)
					wantSame(t, "without a twig", wantCorrectness(t, "without a twig", y), false)
				}
			}
		}
	}
}

func TestExactSchemesTwigByTwig(t *testing.T) {
	eachBorder(func(s *sequence, x impl.Border) {
		for h := range int64(10) {
			wantExactScheme(t, x, h, expectExact(x, h))
		}
	})
	eachCorrectBorder(func(s *sequence, border correctBorder) {
		for h := range int64(10) {
			wantExactScheme(t, border.x, h, expectExact(border.x, h))
		}
	})
}

// TestExactSchemesOfFullTwigs counts the i, j and l in 0..3 that are h together.
func TestExactSchemesOfFullTwigs(t *testing.T) {
	for h, want := range []int64{1, 3, 6, 10, 12, 12, 10, 6, 3, 1} {
		for twigs := range int64(impl.MaxProducts + 1) {
			x := fullBorder(3, 1, 2, 1, int(twigs))
			count, code := impl.CountExact(x, int64(h))
			wantCode(t, "CountExact", code, impl.ErrNone)
			wantSame(t, fmt.Sprint("CountExact of ", twigs, " full twigs and ", h), count, want*twigs)
			wantExactScheme(t, x, int64(h), expectExact(x, int64(h)))
		}
	}
}

func TestValuesNumberByNumber(t *testing.T) {
	fewer := 0
	eachBorder(func(s *sequence, x impl.Border) {
		for v := range x.Prime {
			value, code := impl.ValueOfBorder(x, v)
			wantCode(t, "ValueOfBorder", code, impl.ErrNone)
			wantScheme(t, fmt.Sprint("ValueOfBorder of ", x, " at ", v), bareScheme(x), value, expectValue(x, v))
			wantSame(t, "IsScheme of a value", impl.IsScheme(value), true)
			fewer += len(x.Twigs) - len(value.Products)
		}
	})
	if fewer < 100 {
		t.Fatalf("only %d products were left out of values", fewer)
	}
}

func TestRaisedAndStretchedNumberByNumber(t *testing.T) {
	eachBorder(func(s *sequence, x impl.Border) {
		for which := range int64(3) {
			raise(t, x, which)
		}
		for v := int64(1); v < x.Prime; v++ {
			stretch(t, x, v)
		}
	})
}

func TestLowestPowersOfSeries(t *testing.T) {
	eachBorder(func(s *sequence, x impl.Border) {
		powers, code := impl.LowestPowers(x)
		if want := expectLowest(x); code != impl.ErrNone || !sameRows(powers, want) {
			t.Fatalf("LowestPowers of %v = %v, %d, want %v", x, powers, code, want)
		}
	})
	s := &sequence{}
	for at := range int64(64) {
		want := []int64{at / 16, at / 4 % 4, at % 4}
		x := impl.Border{Prime: 5, Rows: 2, Inner: 3, Cols: 2}
		for range 3 {
			var twig impl.Twig
			for which, places := range placesOf(x) {
				*seriesOf(&twig, which) = lifted(s, 5, places, someForm(s, 5, places), want[which])
			}
			x.Twigs = append(x.Twigs, twig)
		}
		powers, code := impl.LowestPowers(x)
		wantCode(t, "LowestPowers", code, impl.ErrNone)
		wantSame(t, "LowestPowers", powers, [][]int64{want, want, want})
	}
}

// TestOrdersManyAtOnce has calls side by side, each of which has goroutines of its own.
func TestOrdersManyAtOnce(t *testing.T) {
	s := &sequence{}
	var list []correctBorder
	for range 5 {
		list = append(list, correctBorders(s, 3, 2, 2, 2)...)
	}
	orders, correct := make([]int64, len(list)), make([]bool, len(list))
	done := make(chan int)
	for at, border := range list {
		go func() {
			orders[at], _ = impl.OrderOfBorder(border.x)
			correct[at], _ = impl.IsBorderCorrect(border.x, border.h)
			done <- at
		}()
	}
	for range list {
		at := <-done
		wantSame(t, "OrderOfBorder of one "+list[at].name, orders[at], list[at].h)
		wantSame(t, "IsBorderCorrect of one "+list[at].name, correct[at], true)
	}
}

// TestCoefficientsEnd tests that calls leave no goroutine behind.
func TestCoefficientsEnd(t *testing.T) {
	before := runtime.NumGoroutine()
	x := fullBorder(5, 3, 3, 3, impl.MaxProducts)
	for range 100 {
		orderOf(t, x)
		wantSame(t, "IsBorderCorrect", first(impl.IsBorderCorrect(x, 0)), false)
	}
	wantGoroutines(t, before)
}
