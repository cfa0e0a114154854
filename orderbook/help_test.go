package orderbook_test

import (
	"encoding/hex"
	"errors"
	"strings"
	"testing"

	"orderbook/orderbook"
)

func fromHex(t *testing.T, text string) string {
	t.Helper()
	b, err := hex.DecodeString(strings.ReplaceAll(text, " ", ""))
	if err != nil {
		t.Fatalf("the test's own text %q: %v", text, err)
	}
	return string(b)
}

func reasons() []error {
	return []error{
		orderbook.ErrConfig, orderbook.ErrKind, orderbook.ErrRange, orderbook.ErrShort,
		orderbook.ErrFrame, orderbook.ErrRecord, orderbook.ErrGap, orderbook.ErrBroken,
	}
}

// isJust tells whether an error is one reason and no other, with a place (or, where at is below 0, without one).
func isJust(err, reason error, at int) bool {
	for _, r := range reasons() {
		if errors.Is(err, r) != (r == reason) {
			return false
		}
	}
	var f *orderbook.Fault
	if !errors.As(err, &f) {
		return at < 0
	}
	return f.At == at
}
