package orderbook_test

import (
	"errors"
	"math"
	"testing"

	"orderbook/orderbook"
)

func TestReasonsHaveTextsAndAreApart(t *testing.T) {
	for i, r := range reasons() {
		if r.Error() == "" {
			t.Errorf("reason %d has no text", i)
		}
		if !isJust(r, r, -1) {
			t.Errorf("reason %d is not just itself", i)
		}
	}
}

func TestFaultWrapsItsReason(t *testing.T) {
	for _, r := range reasons() {
		for _, at := range []int{0, 1, 7, math.MaxInt, math.MinInt} {
			f := &orderbook.Fault{At: at, Err: r}
			var found *orderbook.Fault
			if f.Unwrap() != r || !errors.Is(f, r) || !errors.As(f, &found) || found.At != at {
				t.Errorf("a Fault of %v at %d can't be taken apart", r, at)
			}
			if f.Error() == "" {
				t.Errorf("a Fault of %v at %d has no text", r, at)
			}
		}
	}
}

func TestFaultWithoutReason(t *testing.T) {
	for _, f := range []*orderbook.Fault{nil, {}, {At: 3}} {
		if f.Error() == "" || f.Unwrap() != nil {
			t.Errorf("%#v: %q, %v", f, f.Error(), f.Unwrap())
		}
	}
}
