package orderbook_test

import (
	"math"
	"slices"
	"strings"
	"testing"

	"orderbook/orderbook"
)

func TestNewConfig(t *testing.T) {
	for _, c := range []config{
		{1, 1, 1}, {64, 1_000_000, 1_000}, {1, 1_000_000, 1}, {64, 1, 1_000}, {9, 100, 50},
	} {
		for _, draw := range []orderbook.Draw{&draws{}, nil} {
			if e, err := orderbook.New(c, draw); e == nil || err != nil {
				t.Errorf("New(%+v): %v, %v", c, e, err)
			}
		}
	}
	for _, c := range []config{
		{}, {0, 9, 9}, {65, 9, 9}, {-1, 9, 9}, {math.MinInt, 9, 9}, {math.MaxInt, 9, 9},
		{9, 0, 9}, {9, 1_000_001, 9}, {9, -1, 9}, {9, math.MinInt, 9}, {9, math.MaxInt, 9},
		{9, 9, 0}, {9, 9, 1_001}, {9, 9, -1}, {9, 9, math.MinInt}, {9, 9, math.MaxInt},
		{0, 0, 0}, {65, 1_000_001, 1_001}, {-9, -9, -9},
	} {
		for _, draw := range []orderbook.Draw{&draws{}, nil} {
			if e, err := orderbook.New(c, draw); e != nil || !isJust(err, orderbook.ErrConfig, -1) {
				t.Errorf("New(%+v): %v, %v; want ErrConfig alone", c, e, err)
			}
		}
	}
}

func TestNewEngineIsEmpty(t *testing.T) {
	d := smallDesk(t, 7)
	d.wantOrders()
	if a := d.engine.Average(); a != 0 {
		t.Errorf("the average of no trades: %v", a)
	}
	d.wantRaw("")
	d.wantRaw("")
	d.wantDrawn(0)
}

// The time of a new engine is 0: an order until 1 is not late, one until 0 is.
func TestNewEngineTime(t *testing.T) {
	d := smallDesk(t)
	late := newOrder(terms{ID: 1, Side: buy, Type: limit, Price: 5, Qty: 3, Life: until})
	d.want(late, rejected(1, 8))
	late.Time = 1
	d.sweeps(late, shown(1, 5, 3))
}

func TestNoCommand(t *testing.T) {
	d := smallDesk(t)
	none := rejected(0, 1)
	d.wantRaw(fromHex(t, "00"), none)
	d.wantRaw(fromHex(t, "03 01 02 03"), none)
	d.wantRaw(fromHex(t, "00 00 00"), none, none, none)
	d.wantRaw(fromHex(t, "00 05 02 00000007 00"), none, rejected(7, 3), none)
	d.wantRaw(fromHex(t, "02 05 00 05 02 00000007"), none, rejected(7, 3))
	d.wantOrders()
}

// Of what is no command just as many bytes are taken as its first byte says: a command behind it is understood.
func TestNoCommandOfEveryKindAndSize(t *testing.T) {
	d := smallDesk(t)
	behind := frameOf(t, cancelOf(7))
	sizes := map[int]int{1: 28, 2: 5, 3: 13, 4: 5, 5: 1}
	for kind := range 256 {
		for follow := 1; follow < 256; follow++ {
			if sizes[kind] == follow {
				continue
			}
			broken := string([]byte{byte(follow), byte(kind)}) + strings.Repeat("\x01", follow-1)
			d.wantRaw(broken[:follow])
			d.wantRaw(broken[follow:]+behind, rejected(0, 1), rejected(7, 3))
		}
	}
}

// session is bytes of which every way to take them tells the same.
func session(t *testing.T) string {
	t.Helper()
	var text string
	for _, c := range []command{
		limitOrder(buy, 7, 5, 3), limitOrder(sell, 8, 4, 2), cancelOf(9), icebergOrder(sell, 1, 10, 9, 4),
		limitOrder(buy, 2, 10, 6), cancelOf(7), limitOrder(buy, 2, 10, 6),
	} {
		text += frameOf(t, c)
	}
	return "\x00" + text + "\x03\x01\x02\x03" + frameOf(t, cancelOf(1)) + "\x00\x05\x02\x00"
}

func TestBytesMayComeInAnyPieces(t *testing.T) {
	text := session(t)
	whole := smallDesk(t, 7)
	want := whole.engine.Apply(text)
	rest := "\x00\x00\x07"
	last := whole.engine.Apply(rest)
	if len(want) == 0 || len(last) != 22 {
		t.Fatalf("told were %x and %x", want, last)
	}
	states := whole.engine.Orders()
	for size := 1; size <= len(text); size++ {
		d := smallDesk(t, 7)
		var got string
		for piece := range slices.Chunk([]byte(text), size) {
			got += d.engine.Apply(string(piece)) + d.engine.Apply("")
		}
		if got != want || !slices.Equal(d.engine.Orders(), states) {
			t.Fatalf("in pieces of %d bytes another stream is told:\ngot  %x\nwant %x", size, got, want)
		}
		if d.engine.Apply(rest) != last {
			t.Fatalf("in pieces of %d bytes the frame that was not whole is lost", size)
		}
	}
}

func TestShortFrameWaits(t *testing.T) {
	d := smallDesk(t)
	frame := frameOf(t, limitOrder(buy, 7, 5, 3))
	for i := range len(frame) - 1 {
		d.wantRaw(frame[i : i+1])
		d.wantOrders()
	}
	d.wantRaw(frame[len(frame)-1:], accepted(limitOrder(buy, 7, 5, 3)), shown(7, 5, 3))
	d.wantRaw("\xff")
	d.wantRaw(strings.Repeat("\x00", 254))
	d.wantRaw("\x00", rejected(0, 1))
}

func TestRecordsAreCountedPerEngine(t *testing.T) {
	one, two := smallDesk(t), smallDesk(t)
	for i := 1; i <= 40; i++ {
		one.wantRaw("\x00", rejected(0, 1))
	}
	two.rest(limitOrder(buy, 7, 5, 3))
	one.wantOrders()
	one.rest(limitOrder(sell, 7, 5, 3))
	one.wantRaw("\x05")
	two.want(cancelOf(7), cancelled(7, 3, 1))
	one.wantOrders(state{ID: 7, Status: 1, Price: 5, Open: 3, Shown: 3})
	if one.told != 42 || two.told != 3 {
		t.Errorf("%d and %d records were told", one.told, two.told)
	}
}

func TestEngineWithoutDraw(t *testing.T) {
	e, err := orderbook.New(config{9, 100, 50}, nil)
	if err != nil {
		t.Fatal(err)
	}
	d := &desk{t: t, engine: e, draws: &draws{}}
	d.rest(icebergOrder(sell, 1, 10, 9, 4))
	d.sweeps(limitOrder(buy, 2, 10, 4), traded(2, 1, 10, 4), shown(1, 10, 1))
}
