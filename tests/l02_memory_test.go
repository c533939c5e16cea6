package tests

import (
	"fmt"
	"testing"

	"loop.example/g01262/impl"
)

func TestPairsAreNotChangedOrShared(t *testing.T) {
	s := &sequence{}
	for _, way := range pairWays {
		for _, products := range [][2]int{{0, 0}, {0, 4}, {4, 0}, {1, 1}, {1, 30}, {30, 1}, {3, 4}, {16, 16}} {
			x, wholeX := roomy(someScheme(s, 3, 1, 1, 1, products[0]))
			y, wholeY := roomy(someScheme(s, 3, 1, 1, 1, products[1]))
			before := fmt.Sprint(x, wholeX, y, wholeY)
			made, _ := way.run(x, y)
			wantSame(t, way.name+": its arguments", fmt.Sprint(x, wholeX, y, wholeY), before)
			overwrite(made.Products)
			wantSame(t, way.name+": its arguments after the result was changed", fmt.Sprint(x, wholeX, y, wholeY), before)
		}
		x, whole := roomy(someScheme(s, 2, 1, 1, 1, 5))
		before := fmt.Sprint(x, whole)
		made, code := way.run(x, x)
		wantCode(t, way.name+" of a scheme and itself", code, impl.ErrNone)
		overwrite(made.Products)
		wantSame(t, way.name+" of a scheme and itself", fmt.Sprint(x, whole), before)
	}
}

func TestRestrictedSchemesAreNotChangedOrShared(t *testing.T) {
	s := &sequence{}
	for _, to := range [][3]int64{{2, 2, 2}, {1, 2, 2}, {1, 1, 1}, {3, 2, 2}, {0, 1, 1}} {
		x, whole := roomy(someScheme(s, 5, 2, 2, 2, 9))
		before := fmt.Sprint(x, whole)
		made, _ := impl.RestrictScheme(x, to[0], to[1], to[2])
		wantSame(t, "RestrictScheme: its argument", fmt.Sprint(x, whole), before)
		overwrite(made.Products)
		wantSame(t, "RestrictScheme: its argument after the result was changed", fmt.Sprint(x, whole), before)
	}
}

// TestKnownSchemesAreNew changes the results of calls, and calls again.
func TestKnownSchemesAreNew(t *testing.T) {
	for _, p := range primes {
		for _, name := range []string{"strassen", "winograd", "plain"} {
			text := func() string { return spoil(first(impl.KnownScheme(name, p)).Products) }
			wantSame(t, name+" again", text(), text())
		}
		text := func() string { return spoil(first(impl.JoinScheme(p, 2, 3, 3)).Products) }
		wantSame(t, "JoinScheme again", text(), text())
	}
}
