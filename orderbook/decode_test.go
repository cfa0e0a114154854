package orderbook_test

import (
	"strings"
	"testing"

	"orderbook/orderbook"
)

func TestDecode(t *testing.T) {
	all := everyTerm()
	for _, c := range []struct {
		name, text string
		want       command
		size       int
	}{
		{"new", "1c 01 01020304 05 06 0708090a 0b0c0d0e 0f101112 13141516 17 18191a1b", command{1, all}, 29},
		{"cancel", "05 02 01020304", command{2, terms{ID: all.ID}}, 6},
		{"replace", "0d 03 01020304 0708090a 0b0c0d0e", command{3, terms{ID: all.ID, Price: all.Price, Qty: all.Qty}}, 14},
		{"tick", "05 04 18191a1b", command{4, terms{Time: all.Time}}, 6},
		{"close", "01 05", command{Kind: 5}, 2},
		{"new, all bits", "1c 01 ffffffff ff ff ffffffff ffffffff ffffffff ffffffff ff ffffffff", command{1, terms{most, 255, 255, most, most, most, -1, 255, most}}, 29},
		{"offset at the bottom", "1c 01 00000000 00 00 00000000 00000000 00000000 80000000 00 00000000", command{1, terms{Offset: -1 << 31}}, 29},
		{"offset at the top", "1c 01 00000000 00 00 00000000 00000000 00000000 7fffffff 00 00000000", command{1, terms{Offset: 1<<31 - 1}}, 29},
	} {
		frame := fromHex(t, c.text)
		for _, behind := range []string{"", "\x00", "\xff", frame, strings.Repeat("\x01", 300)} {
			got, size, err := orderbook.Decode(frame + behind)
			if got != c.want || size != c.size || err != nil {
				t.Errorf("%s, with %d bytes behind it: %+v, %d, %v; want %+v, %d", c.name, len(behind), got, size, err, c.want, c.size)
			}
		}
	}
}

func wantNoFrame(t *testing.T, text string, reason error) {
	t.Helper()
	c, size, err := orderbook.Decode(text)
	if c != (command{}) || size != 0 || !isJust(err, reason, -1) {
		t.Errorf("Decode(%x): %+v, %d, %v; want %v alone", text, c, size, err, reason)
	}
}

func TestDecodeExamples(t *testing.T) {
	wantNoFrame(t, fromHex(t, "05 02 00 00"), orderbook.ErrShort)
	wantNoFrame(t, fromHex(t, "02 05 00"), orderbook.ErrFrame)
	wantNoFrame(t, fromHex(t, "00"), orderbook.ErrFrame)
}

func TestDecodeBeginsWithZero(t *testing.T) {
	for _, behind := range []string{"", "\x00", "\x05", "\x01\x05", strings.Repeat("\x00", 300)} {
		wantNoFrame(t, "\x00"+behind, orderbook.ErrFrame)
	}
}

// Every kind with every size: cut anywhere it is short, whatever its kind; whole, it is a frame only where the document has one.
func TestDecodeEveryKindAndSize(t *testing.T) {
	sizes := map[int]int{1: 28, 2: 5, 3: 13, 4: 5, 5: 1}
	wantNoFrame(t, "", orderbook.ErrShort)
	for kind := range 256 {
		for follow := 1; follow < 256; follow++ {
			whole := string([]byte{byte(follow), byte(kind)}) + strings.Repeat("\x01", follow-1)
			for _, cut := range []int{1, follow/2 + 1, follow} {
				wantNoFrame(t, whole[:cut], orderbook.ErrShort)
			}
			if sizes[kind] != follow {
				wantNoFrame(t, whole, orderbook.ErrFrame)
				wantNoFrame(t, whole+"\x01\x05", orderbook.ErrFrame)
				continue
			}
			c, size, err := orderbook.Decode(whole)
			if c.Kind != kind || size != follow+1 || err != nil {
				t.Errorf("Decode(%x): %+v, %d, %v", whole, c, size, err)
			}
		}
	}
}

func FuzzDecode(f *testing.F) {
	for _, text := range []string{"", "\x00", "\x01\x05", "\x05\x02\x00\x00\x00\x07", "\x05\x02", "\x02\x05\x00"} {
		f.Add(text)
	}
	f.Fuzz(func(t *testing.T, text string) {
		c, size, err := orderbook.Decode(text)
		if err != nil {
			if c != (command{}) || size != 0 {
				t.Fatalf("Decode(%x): %+v, %d beside %v", text, c, size, err)
			}
			return
		}
		if back, err := orderbook.Encode(c); err != nil || back != text[:size] {
			t.Fatalf("Decode(%x): %+v, which is %x, %v", text, c, back, err)
		}
	})
}
