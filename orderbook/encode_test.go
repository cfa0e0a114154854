package orderbook_test

import (
	"math"
	"testing"

	"orderbook/orderbook"
)

type (
	command = orderbook.Command
	terms   = orderbook.Terms
)

// most is the greatest number of four bytes.
const most = 1<<32 - 1

// everyTerm has another number in each of its fields, so that no two can change places unseen.
func everyTerm() terms {
	return terms{ID: 0x01020304, Side: 0x05, Type: 0x06, Price: 0x0708090a, Qty: 0x0b0c0d0e, Peak: 0x0f101112, Offset: 0x13141516, Life: 0x17, Time: 0x18191a1b}
}

func TestEncode(t *testing.T) {
	for _, c := range []struct {
		name string
		in   command
		want string
	}{
		{"new", command{1, everyTerm()}, "1c 01 01020304 05 06 0708090a 0b0c0d0e 0f101112 13141516 17 18191a1b"},
		{"cancel", command{2, everyTerm()}, "05 02 01020304"},
		{"replace", command{3, everyTerm()}, "0d 03 01020304 0708090a 0b0c0d0e"},
		{"tick", command{4, everyTerm()}, "05 04 18191a1b"},
		{"close", command{5, everyTerm()}, "01 05"},
		{"example 1", command{2, terms{ID: 7}}, "05 02 00000007"},
		{"new, all 0", command{1, terms{}}, "1c 01 00000000 00 00 00000000 00000000 00000000 00000000 00 00000000"},
		{"new, all at the top", command{1, terms{most, 255, 255, most, most, most, math.MaxInt32, 255, most}}, "1c 01 ffffffff ff ff ffffffff ffffffff ffffffff 7fffffff ff ffffffff"},
		{"offset -1", command{1, terms{Offset: -1}}, "1c 01 00000000 00 00 00000000 00000000 00000000 ffffffff 00 00000000"},
		{"offset at the bottom", command{1, terms{Offset: math.MinInt32}}, "1c 01 00000000 00 00 00000000 00000000 00000000 80000000 00 00000000"},
		{"replace, at the top", command{3, terms{ID: most, Price: most, Qty: most}}, "0d 03 ffffffff ffffffff ffffffff"},
	} {
		got, err := orderbook.Encode(c.in)
		if want := fromHex(t, c.want); got != want || err != nil {
			t.Errorf("%s: %x, %v; want %x", c.name, got, err, want)
		}
	}
}

func TestEncodeNoKind(t *testing.T) {
	wrong := terms{-1, -1, -1, -1, -1, -1, math.MinInt, -1, -1}
	for _, kind := range []int{0, 6, 7, -1, 255, 256, 257, 258, 261, math.MaxInt, math.MinInt} {
		for _, with := range []terms{{}, wrong} {
			got, err := orderbook.Encode(command{kind, with})
			if got != "" || !isJust(err, orderbook.ErrKind, -1) {
				t.Errorf("kind %d with %v: %x, %v", kind, with, got, err)
			}
		}
	}
}

// field is a number of a command, and the least and the greatest that have room.
type field struct {
	name        string
	set         func(*command, int)
	least, most int
}

func fieldsOf(kind int) []field {
	id := field{"ID", func(c *command, n int) { c.ID = n }, 0, most}
	side := field{"Side", func(c *command, n int) { c.Side = n }, 0, 255}
	typ := field{"Type", func(c *command, n int) { c.Type = n }, 0, 255}
	price := field{"Price", func(c *command, n int) { c.Price = n }, 0, most}
	qty := field{"Qty", func(c *command, n int) { c.Qty = n }, 0, most}
	peak := field{"Peak", func(c *command, n int) { c.Peak = n }, 0, most}
	offset := field{"Offset", func(c *command, n int) { c.Offset = n }, math.MinInt32, math.MaxInt32}
	life := field{"Life", func(c *command, n int) { c.Life = n }, 0, 255}
	time := field{"Time", func(c *command, n int) { c.Time = n }, 0, most}
	return map[int][]field{
		1: {id, side, typ, price, qty, peak, offset, life, time},
		2: {id},
		3: {id, price, qty},
		4: {time},
		5: {},
	}[kind]
}

func TestEncodeEdgesOfEachNumber(t *testing.T) {
	for kind := 1; kind <= 5; kind++ {
		for at, f := range fieldsOf(kind) {
			for _, n := range []int{f.least, f.least + 1, f.most - 1, f.most} {
				c := command{Kind: kind}
				f.set(&c, n)
				frame, err := orderbook.Encode(c)
				if back, _, _ := orderbook.Decode(frame); err != nil || back != c {
					t.Errorf("kind %d, %s %d: %v, and back %+v", kind, f.name, n, err, back)
				}
			}
			for _, n := range []int{f.least - 1, f.most + 1, math.MinInt, math.MaxInt, 1 << 40, -1 << 40} {
				c := command{Kind: kind}
				f.set(&c, n)
				frame, err := orderbook.Encode(c)
				if frame != "" || !isJust(err, orderbook.ErrRange, at) {
					t.Errorf("kind %d, %s %d: %x, %v; want ErrRange at %d", kind, f.name, n, frame, err, at)
				}
			}
		}
	}
}

func TestEncodeTellsTheFirstWithoutRoom(t *testing.T) {
	for kind := 1; kind <= 4; kind++ {
		fields := fieldsOf(kind)
		for from := range fields {
			c := command{Kind: kind}
			for _, f := range fields[from:] {
				f.set(&c, f.most+1)
			}
			if frame, err := orderbook.Encode(c); frame != "" || !isJust(err, orderbook.ErrRange, from) {
				t.Errorf("kind %d, wrong from %d on: %x, %v", kind, from, frame, err)
			}
		}
	}
}

func TestEncodeLooksAtNoOtherNumber(t *testing.T) {
	for kind := 2; kind <= 5; kind++ {
		c := command{Kind: kind}
		for _, f := range fieldsOf(1) {
			f.set(&c, -1<<40)
		}
		for _, f := range fieldsOf(kind) {
			f.set(&c, 1)
		}
		plain := command{Kind: kind}
		for _, f := range fieldsOf(kind) {
			f.set(&plain, 1)
		}
		got, err := orderbook.Encode(c)
		want, _ := orderbook.Encode(plain)
		if got != want || got == "" || err != nil {
			t.Errorf("kind %d: %x, %v; want %x", kind, got, err, want)
		}
	}
}
