package orderbook_test

import (
	"math"
	"testing"
)

func TestExampleOfATrade(t *testing.T) {
	d := smallDesk(t)
	d.want(limitOrder(buy, 7, 5, 3), record{Kind: 1, ID: 7, Other: 1, Price: 5, Qty: 3, Reason: 1}, record{Kind: 6, ID: 7, Price: 5, Qty: 3})
	d.want(limitOrder(sell, 8, 4, 2), record{Kind: 1, ID: 8, Other: 2, Price: 4, Qty: 2, Reason: 1}, record{Kind: 3, ID: 8, Other: 7, Price: 5, Qty: 2})
	d.wantOrders(state{ID: 7, Status: 1, Price: 5, Open: 1, Filled: 2, Shown: 1}, state{ID: 8, Status: 2, Price: 4, Filled: 2})
	if a := d.engine.Average(); a != 5 {
		t.Errorf("average %v", a)
	}
}

func TestPricesThatMeet(t *testing.T) {
	for _, c := range []struct {
		side, resting, coming int
		meet                  bool
	}{
		{buy, 50, 49, false}, {buy, 50, 50, true}, {buy, 50, 51, true}, {buy, 100, 1, false}, {buy, 1, 100, true},
		{sell, 50, 51, false}, {sell, 50, 50, true}, {sell, 50, 49, true}, {sell, 1, 100, false}, {sell, 100, 1, true},
	} {
		d := smallDesk(t)
		d.rest(limitOrder(3-c.side, 1, c.resting, 3))
		if c.meet {
			d.sweeps(limitOrder(c.side, 2, c.coming, 3), traded(2, 1, c.resting, 3))
			d.wantOrders(state{ID: 1, Status: 2, Price: c.resting, Filled: 3}, state{ID: 2, Status: 2, Price: c.coming, Filled: 3})
		} else {
			d.rest(limitOrder(c.side, 2, c.coming, 3))
		}
		d.wantDrawn(0)
	}
}

func TestSameSideNeverTrades(t *testing.T) {
	for _, side := range []int{buy, sell} {
		d := smallDesk(t)
		d.rest(limitOrder(side, 1, 50, 3), limitOrder(side, 2, 1, 3), limitOrder(side, 3, 100, 3), limitOrder(side, 4, 50, 3))
	}
}

func TestBestPriceAndOldestPlaceFirst(t *testing.T) {
	d := smallDesk(t)
	d.rest(limitOrder(sell, 9, 20, 2), limitOrder(sell, 3, 18, 2), limitOrder(sell, 5, 19, 2), limitOrder(sell, 2, 18, 2), limitOrder(sell, 1, 21, 2))
	d.sweeps(limitOrder(buy, 10, 20, 9), traded(10, 3, 18, 2), traded(10, 2, 18, 2), traded(10, 5, 19, 2), traded(10, 9, 20, 2), shown(10, 20, 1))

	d = smallDesk(t)
	d.rest(limitOrder(buy, 9, 20, 2), limitOrder(buy, 3, 22, 2), limitOrder(buy, 5, 21, 2), limitOrder(buy, 2, 22, 2), limitOrder(buy, 1, 19, 2))
	d.sweeps(limitOrder(sell, 10, 20, 9), traded(10, 3, 22, 2), traded(10, 2, 22, 2), traded(10, 5, 21, 2), traded(10, 9, 20, 2), shown(10, 20, 1))
}

// One that has traded a part keeps its place; one that has come to rest behind a sweep has the newest.
func TestPlaces(t *testing.T) {
	d := smallDesk(t)
	d.rest(limitOrder(buy, 5, 10, 5), limitOrder(buy, 4, 10, 5))
	d.sweeps(limitOrder(sell, 6, 10, 2), traded(6, 5, 10, 2))
	d.sweeps(limitOrder(sell, 7, 10, 1), traded(7, 5, 10, 1))
	d.sweeps(limitOrder(sell, 8, 9, 8), traded(8, 5, 10, 2), traded(8, 4, 10, 5), shown(8, 9, 1))
	d.rest(limitOrder(sell, 2, 9, 4), limitOrder(sell, 3, 9, 4))
	d.sweeps(limitOrder(buy, 9, 9, 6), traded(9, 8, 9, 1), traded(9, 2, 9, 4), traded(9, 3, 9, 1))
	d.wantOrders(
		state{ID: 2, Status: 2, Price: 9, Filled: 4},
		state{ID: 3, Status: 1, Price: 9, Open: 3, Filled: 1, Shown: 3},
		state{ID: 4, Status: 2, Price: 10, Filled: 5},
		state{ID: 5, Status: 2, Price: 10, Filled: 5},
		state{ID: 6, Status: 2, Price: 10, Filled: 2},
		state{ID: 7, Status: 2, Price: 10, Filled: 1},
		state{ID: 8, Status: 2, Price: 9, Filled: 8},
		state{ID: 9, Status: 2, Price: 9, Filled: 6},
	)
}

func TestExampleOfAnIceberg(t *testing.T) {
	d := smallDesk(t, 7)
	d.rest(icebergOrder(sell, 1, 10, 9, 4))
	d.sweeps(limitOrder(buy, 2, 10, 6), traded(2, 1, 10, 4), shown(1, 10, 4), traded(2, 1, 10, 2))
	d.wantOrders(state{ID: 1, Status: 1, Price: 10, Open: 3, Filled: 6, Shown: 2}, state{ID: 2, Status: 2, Price: 10, Filled: 6})
	d.wantDrawn(1)
}

// An iceberg that sweeps trades all that it has open; what is left rests with no more than its peak, and nothing is drawn.
func TestIcebergThatSweeps(t *testing.T) {
	for _, c := range []struct{ qty, peak, shows int }{
		{3, 1, 0}, {4, 1, 1}, {5, 2, 2}, {9, 4, 4}, {9, 9, 6}, {7, 4, 4}, {6, 4, 3},
	} {
		d := smallDesk(t, 1)
		d.rest(limitOrder(buy, 1, 10, 3))
		trade := traded(2, 1, 10, 3)
		if c.shows == 0 {
			d.sweeps(icebergOrder(sell, 2, 10, c.qty, c.peak), trade)
		} else {
			d.sweeps(icebergOrder(sell, 2, 10, c.qty, c.peak), trade, shown(2, 10, c.shows))
		}
		d.wantDrawn(0)
	}
}

// What an iceberg shows next: 1 and the number modulo 2^32 modulo the peak, no more than is open.
func TestNumbersThatAreDrawn(t *testing.T) {
	for _, c := range []struct{ number, peak, qty, shows int }{
		{0, 7, 50, 1}, {6, 7, 50, 7}, {7, 7, 50, 1}, {13, 7, 50, 7},
		{-1, 7, 50, 4}, {1<<32 - 1, 7, 50, 4}, {1 << 32, 7, 50, 1}, {1<<32 + 2, 7, 50, 3}, {-1 << 32, 7, 50, 1}, {-2, 7, 50, 3},
		{math.MaxInt, 7, 50, 4}, {math.MinInt, 7, 50, 1}, {math.MinInt + 5, 7, 50, 6},
		{1 << 31, 7, 50, 3}, {-1 << 31, 7, 50, 3},
		{6, 7, 9, 2}, {6, 7, 8, 1}, {6, 7, 14, 7}, {6, 7, 13, 6}, {1, 7, 9, 2}, {0, 7, 8, 1},
		{5, 1, 50, 1}, {-1, 1, 2, 1},
	} {
		for _, side := range []int{buy, sell} {
			d := smallDesk(t, c.number)
			d.rest(icebergOrder(side, 1, 10, c.qty, c.peak))
			d.sweeps(limitOrder(3-side, 2, 10, c.peak), traded(2, 1, 10, c.peak), shown(1, 10, c.shows))
			d.wantOrders(state{ID: 1, Status: 1, Price: 10, Open: c.qty - c.peak, Filled: c.peak, Shown: c.shows}, state{ID: 2, Status: 2, Price: 10, Filled: c.peak})
			d.wantDrawn(1)
		}
	}
}

// A number is drawn where an iceberg shows nothing though it is open, and nowhere else.
func TestNumbersThatAreNotDrawn(t *testing.T) {
	d := smallDesk(t, 3)
	d.rest(icebergOrder(sell, 1, 10, 9, 4))
	d.sweeps(limitOrder(buy, 2, 10, 3), traded(2, 1, 10, 3))
	d.wantDrawn(0)
	d.want(cancelOf(1), cancelled(1, 6, 1))
	d.rest(icebergOrder(sell, 3, 10, 4, 4), limitOrder(sell, 4, 10, 4))
	d.sweeps(limitOrder(buy, 5, 10, 8), traded(5, 3, 10, 4), traded(5, 4, 10, 4))
	d.wantDrawn(0)
}

// An iceberg that shows anew does so at the newest place of its price, and ahead of all worse ones.
func TestIcebergTakesTheNewestPlace(t *testing.T) {
	d := smallDesk(t, 1, 0, 3)
	d.rest(icebergOrder(sell, 1, 10, 9, 2), limitOrder(sell, 2, 10, 2), limitOrder(sell, 3, 11, 9))
	d.sweeps(limitOrder(buy, 4, 11, 15),
		traded(4, 1, 10, 2), shown(1, 10, 2),
		traded(4, 2, 10, 2),
		traded(4, 1, 10, 2), shown(1, 10, 1),
		traded(4, 1, 10, 1), shown(1, 10, 2),
		traded(4, 1, 10, 2), shown(1, 10, 2),
		traded(4, 1, 10, 2),
		traded(4, 3, 11, 4))
	d.wantDrawn(4)
}

func TestIcebergsTakeTurns(t *testing.T) {
	d := smallDesk(t, 0)
	d.rest(icebergOrder(buy, 2, 10, 4, 2), icebergOrder(buy, 1, 10, 4, 2))
	d.sweeps(limitOrder(sell, 3, 10, 9),
		traded(3, 2, 10, 2), shown(2, 10, 1), traded(3, 1, 10, 2), shown(1, 10, 1),
		traded(3, 2, 10, 1), shown(2, 10, 1), traded(3, 1, 10, 1), shown(1, 10, 1),
		traded(3, 2, 10, 1), traded(3, 1, 10, 1), shown(3, 10, 1))
	d.wantDrawn(4)
}
