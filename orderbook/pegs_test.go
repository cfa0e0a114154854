package orderbook_test

import "testing"

func TestExampleOfAPeg(t *testing.T) {
	d := smallDesk(t)
	d.want(pegOrder(buy, 3, 5, -2), record{Kind: 1, ID: 3, Other: 1, Qty: 5, Reason: 3})
	d.want(limitOrder(buy, 4, 10, 1),
		record{Kind: 1, ID: 4, Other: 1, Price: 10, Qty: 1, Reason: 1},
		record{Kind: 6, ID: 4, Price: 10, Qty: 1},
		record{Kind: 7, ID: 3, Price: 8, Qty: 5})
	d.wantOrders(state{ID: 3, Status: 1, Price: 8, Open: 5, Shown: 5}, state{ID: 4, Status: 1, Price: 10, Open: 1, Shown: 1})
	d.want(cancelOf(4), record{Kind: 4, ID: 4, Qty: 1, Reason: 1}, record{Kind: 8, ID: 3})
	d.wantOrders(state{ID: 3, Status: 1, Open: 5}, state{ID: 4, Status: 3, Price: 10, Cancelled: 1})
	d.wantDrawn(0)
}

// A peg that comes where there is a price to follow is laid there behind its own frame.
func TestPegThatComesToAPrice(t *testing.T) {
	d := smallDesk(t)
	d.rest(limitOrder(buy, 1, 10, 1), limitOrder(sell, 2, 20, 1))
	d.sweeps(pegOrder(buy, 3, 5, -2), moved(3, 8, 5))
	d.sweeps(pegOrder(buy, 4, 5, 0), moved(4, 10, 5))
	d.sweeps(pegOrder(sell, 5, 6, 0), moved(5, 20, 6))
	d.sweeps(pegOrder(sell, 6, 6, 7), moved(6, 27, 6))
}

// Its place is 1 at least and the greatest price at most, however far off its offset is.
func TestPegKeepsWithinPrices(t *testing.T) {
	for _, c := range []struct{ side, price, offset, want int }{
		{buy, 1, 0, 1}, {buy, 1, -1, 1}, {buy, 1, -100, 1}, {buy, 100, -100, 1}, {buy, 100, -99, 1}, {buy, 100, -98, 2}, {buy, 100, 0, 100}, {buy, 50, -49, 1}, {buy, 50, -50, 1}, {buy, 50, -51, 1},
		{sell, 100, 0, 100}, {sell, 100, 1, 100}, {sell, 100, 100, 100}, {sell, 1, 100, 100}, {sell, 1, 99, 100}, {sell, 1, 98, 99}, {sell, 1, 0, 1}, {sell, 50, 50, 100}, {sell, 50, 51, 100}, {sell, 50, 49, 99},
	} {
		d := smallDesk(t)
		d.rest(limitOrder(c.side, 1, c.price, 1))
		d.sweeps(pegOrder(c.side, 2, 3, c.offset), moved(2, c.want, 3))
		d.wantOrders(state{ID: 1, Status: 1, Price: c.price, Open: 1, Shown: 1}, state{ID: 2, Status: 1, Price: c.want, Open: 3, Shown: 3})
	}
}

// Of the prices of its side the best is followed; what is told is only what changes.
func TestPegFollowsTheBest(t *testing.T) {
	for _, c := range []struct{ side, away int }{{buy, -1}, {sell, 1}} {
		at := func(better int) int { return 10 - c.away*better }
		d := smallDesk(t)
		d.sweeps(pegOrder(c.side, 1, 5, c.away))
		d.sweeps(limitOrder(c.side, 2, 10, 1), shown(2, 10, 1), moved(1, at(-1), 5))
		d.rest(limitOrder(c.side, 3, at(-2), 1), limitOrder(c.side, 4, 10, 1))
		d.sweeps(limitOrder(c.side, 5, at(2), 1), shown(5, at(2), 1), moved(1, at(1), 5))
		d.want(cancelOf(2), cancelled(2, 1, 1))
		d.want(cancelOf(5), cancelled(5, 1, 1), moved(1, at(-1), 5))
		d.want(cancelOf(4), cancelled(4, 1, 1), moved(1, at(-3), 5))
		d.want(cancelOf(3), cancelled(3, 1, 1), parked(1))
		d.sweeps(icebergOrder(c.side, 6, at(-2), 9, 4), shown(6, at(-2), 4), moved(1, at(-3), 5))
	}
}

// Neither the other side nor another peg is a price to follow.
func TestPegFollowsNoPegAndNotTheOtherSide(t *testing.T) {
	d := smallDesk(t)
	d.rest(limitOrder(sell, 1, 20, 1))
	d.sweeps(pegOrder(buy, 2, 3, 0))
	d.sweeps(pegOrder(buy, 3, 3, -1))
	d.sweeps(limitOrder(buy, 4, 10, 1), shown(4, 10, 1), moved(2, 10, 3), moved(3, 9, 3))
	d.want(cancelOf(4), cancelled(4, 1, 1), parked(2), parked(3))
	d.sweeps(pegOrder(sell, 5, 3, 0), moved(5, 20, 3))
	d.want(cancelOf(1), cancelled(1, 1, 1), parked(5))
	d.wantRaw("\x00", rejected(0, 1))
}

// Pegs are looked at in the order in which they came, whatever their ids, sides or moves were.
func TestPegsInTheOrderOfTheirComing(t *testing.T) {
	d := smallDesk(t)
	d.sweeps(pegOrder(buy, 8, 1, 0))
	d.sweeps(living(pegOrder(buy, 3, 2, -1), day, 0))
	d.sweeps(pegOrder(buy, 9, 3, -2))
	d.sweeps(living(pegOrder(buy, 1, 4, -3), until, 9))
	d.sweeps(living(pegOrder(buy, 5, 5, -4), day, 0))
	order := []record{moved(8, 10, 1), moved(3, 9, 2), moved(9, 8, 3), moved(1, 7, 4), moved(5, 6, 5)}
	d.sweeps(limitOrder(buy, 2, 10, 1), append([]record{shown(2, 10, 1)}, order...)...)
	d.want(cancelOf(2), cancelled(2, 1, 1), parked(8), parked(3), parked(9), parked(1), parked(5))
	d.want(cancelOf(3), cancelled(3, 2, 1))
	d.sweeps(living(pegOrder(buy, 4, 6, 0), day, 0))
	d.loses(8, 0, 7)
	d.sweeps(limitOrder(buy, 7, 10, 1), shown(7, 10, 1), moved(8, 10, 7), moved(9, 8, 3), moved(1, 7, 4), moved(5, 6, 5), moved(4, 10, 6))
	d.sweeps(limitOrder(sell, 6, 10, 9), traded(6, 7, 10, 1), traded(6, 8, 10, 7), traded(6, 4, 10, 1), parked(9), parked(1), parked(5), parked(4))
}

// A peg that moves takes the newest place; one that is where it should be keeps its own.
func TestPlacesOfPegs(t *testing.T) {
	d := smallDesk(t)
	d.rest(limitOrder(sell, 1, 20, 1))
	d.sweeps(pegOrder(sell, 2, 3, 0), moved(2, 20, 3))
	d.rest(limitOrder(sell, 3, 20, 1), limitOrder(sell, 4, 25, 1))
	d.sweeps(limitOrder(buy, 5, 20, 3), traded(5, 1, 20, 1), traded(5, 2, 20, 2))
	d.sweeps(limitOrder(sell, 6, 19, 1), shown(6, 19, 1), moved(2, 19, 1))
	d.want(cancelOf(6), cancelled(6, 1, 1), moved(2, 20, 1))
	d.sweeps(limitOrder(buy, 7, 20, 2), traded(7, 3, 20, 1), traded(7, 2, 20, 1))
	d.wantDrawn(0)
}

// A peg trades as any other that rests, and does not sweep itself.
func TestPegTrades(t *testing.T) {
	d := smallDesk(t)
	d.rest(limitOrder(buy, 1, 10, 2))
	d.sweeps(pegOrder(buy, 2, 5, -2), moved(2, 8, 5))
	d.sweeps(limitOrder(sell, 3, 8, 4), traded(3, 1, 10, 2), traded(3, 2, 8, 2), parked(2))
	d.wantOrders(state{ID: 1, Status: 2, Price: 10, Filled: 2}, state{ID: 2, Status: 1, Open: 3, Filled: 2}, state{ID: 3, Status: 2, Price: 8, Filled: 4})
	d.sweeps(limitOrder(buy, 4, 7, 1), shown(4, 7, 1), moved(2, 5, 3))
	d.sweeps(limitOrder(sell, 5, 5, 9), traded(5, 4, 7, 1), traded(5, 2, 5, 3), shown(5, 5, 5))
	d.wantOrders(
		state{ID: 1, Status: 2, Price: 10, Filled: 2}, state{ID: 2, Status: 2, Price: 5, Filled: 5}, state{ID: 3, Status: 2, Price: 8, Filled: 4},
		state{ID: 4, Status: 2, Price: 7, Filled: 1}, state{ID: 5, Status: 1, Price: 5, Open: 5, Filled: 4, Shown: 5},
	)
	d.wantAverage(float32(20+16+7+15) / 8)
}

// A peg stays where it is as long as its frame lasts: a sweep that takes the price it follows still meets it.
func TestPegsMoveBehindTheFrame(t *testing.T) {
	d := smallDesk(t)
	d.rest(limitOrder(buy, 1, 10, 2), limitOrder(buy, 2, 5, 2))
	d.sweeps(pegOrder(buy, 3, 1, 0), moved(3, 10, 1))
	d.sweeps(pegOrder(buy, 4, 4, -1), moved(4, 9, 4))
	d.sweeps(limitOrder(sell, 6, 9, 4), traded(6, 1, 10, 2), traded(6, 3, 10, 1), traded(6, 4, 9, 1), moved(4, 4, 3))
}

// A text of several frames lays the pegs behind each of them.
func TestPegsMoveBehindEachFrameOfAText(t *testing.T) {
	d := smallDesk(t)
	d.sweeps(pegOrder(buy, 1, 3, 0))
	text := frameOf(t, limitOrder(buy, 2, 10, 1)) + frameOf(t, cancelOf(2)) + frameOf(t, limitOrder(buy, 3, 9, 1))
	d.wantRaw(text,
		accepted(limitOrder(buy, 2, 10, 1)), shown(2, 10, 1), moved(1, 10, 3),
		cancelled(2, 1, 1), parked(1),
		accepted(limitOrder(buy, 3, 9, 1)), shown(3, 9, 1), moved(1, 9, 3))
}

// What a peg was last is told when it has ended; one that is nowhere has no price then either.
func TestPegThatIsCancelled(t *testing.T) {
	d := smallDesk(t)
	d.rest(limitOrder(sell, 1, 10, 2))
	d.sweeps(pegOrder(sell, 2, 5, 2), moved(2, 12, 5))
	d.sweeps(pegOrder(sell, 3, 6, 3), moved(3, 13, 6))
	d.want(cancelOf(2), cancelled(2, 5, 1))
	d.want(cancelOf(1), cancelled(1, 2, 1), parked(3))
	d.want(cancelOf(3), cancelled(3, 6, 1))
	d.wantOrders(state{ID: 1, Status: 3, Price: 10, Cancelled: 2}, state{ID: 2, Status: 3, Price: 12, Cancelled: 5}, state{ID: 3, Status: 3, Cancelled: 6})
	d.rest(limitOrder(sell, 4, 10, 2))
	d.sweeps(limitOrder(buy, 5, 100, 3), traded(5, 4, 10, 2), shown(5, 100, 1))
}
