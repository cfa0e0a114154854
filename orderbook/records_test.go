package orderbook_test

import (
	"slices"
	"strings"
	"testing"

	"orderbook/orderbook"
)

type record = orderbook.Record

func recordText(t *testing.T, kind byte) string {
	t.Helper()
	return string([]byte{kind}) + fromHex(t, "01020304 05060708 090a0b0c 0d0e0f10 11121314 15")
}

func recordOf(kind int) record {
	return record{Kind: kind, Seq: 0x01020304, ID: 0x05060708, Other: 0x090a0b0c, Price: 0x0d0e0f10, Qty: 0x11121314, Reason: 0x15}
}

func wantRecords(t *testing.T, text string, want ...record) {
	t.Helper()
	got, err := orderbook.Records(text)
	if !slices.Equal(got, want) || err != nil {
		t.Errorf("Records(%x): %+v, %v; want %+v", text, got, err, want)
	}
}

func wantNoRecords(t *testing.T, text string, reason error, at int) {
	t.Helper()
	got, err := orderbook.Records(text)
	if len(got) != 0 || !isJust(err, reason, at) {
		t.Errorf("Records(%x): %+v, %v; want %v at %d", text, got, err, reason, at)
	}
}

func TestRecords(t *testing.T) {
	wantRecords(t, "")
	var text string
	var want []record
	for kind := 1; kind <= 8; kind++ {
		wantRecords(t, recordText(t, byte(kind)), recordOf(kind))
		text += recordText(t, byte(kind))
		want = append(want, recordOf(kind))
		wantRecords(t, text, want...)
	}
	wantRecords(t, "\x01"+strings.Repeat("\x00", 21), record{Kind: 1})
	wantRecords(t, "\x08"+strings.Repeat("\xff", 21), record{8, most, most, most, most, most, 255})
}

func TestRecordsShort(t *testing.T) {
	whole := recordText(t, 3)
	for ahead := range 4 {
		for left := 1; left < 22; left++ {
			wantNoRecords(t, strings.Repeat(whole, ahead)+whole[:left], orderbook.ErrShort, ahead)
		}
	}
}

func TestRecordsNoKind(t *testing.T) {
	whole := recordText(t, 3)
	for kind := range 256 {
		if kind >= 1 && kind <= 8 {
			continue
		}
		wrong := recordText(t, byte(kind))
		for ahead := range 3 {
			wantNoRecords(t, strings.Repeat(whole, ahead)+wrong, orderbook.ErrRecord, ahead)
			wantNoRecords(t, strings.Repeat(whole, ahead)+wrong+whole, orderbook.ErrRecord, ahead)
		}
	}
}

func TestRecordsFirstFault(t *testing.T) {
	good, wrong := recordText(t, 1), recordText(t, 9)
	wantNoRecords(t, wrong[:21], orderbook.ErrShort, 0)
	wantNoRecords(t, good+wrong[:1], orderbook.ErrShort, 1)
	wantNoRecords(t, wrong+good[:1], orderbook.ErrRecord, 0)
	wantNoRecords(t, good+wrong+wrong, orderbook.ErrRecord, 1)
}

// The lists are the caller's, spare room too: what is done to one is not seen in another.
func TestRecordsAreTheCallers(t *testing.T) {
	for n := range 20 {
		text := strings.Repeat(recordText(t, 2), n)
		one, _ := orderbook.Records(text)
		if cap(one) != len(one) {
			t.Errorf("%d records are handed out with room for %d", n, cap(one))
		}
		two, _ := orderbook.Records(text)
		for i := range one {
			one[i] = record{}
		}
		_ = append(one, record{})
		for _, r := range two {
			if r != recordOf(2) {
				t.Errorf("two lists share memory: %+v", r)
			}
		}
	}
}
