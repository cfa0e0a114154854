package orderbook_test

import "testing"

// bought is a desk where order 7 is for 3 at 5, and 1 of it is filled.
func bought(t *testing.T) *desk {
	t.Helper()
	d := smallDesk(t, 7)
	d.rest(limitOrder(buy, 7, 5, 3), limitOrder(buy, 8, 5, 3))
	d.sweeps(limitOrder(sell, 9, 5, 1), traded(9, 7, 5, 1))
	return d
}

func TestExampleOfReplace(t *testing.T) {
	d := bought(t)
	d.want(replaceOf(7, 5, 2), record{Kind: 5, ID: 7, Price: 5, Qty: 2, Reason: 1})
	d.wantOrders(state{ID: 7, Status: 1, Price: 5, Open: 1, Filled: 1, Shown: 1}, state{ID: 8, Status: 1, Price: 5, Open: 3, Shown: 3}, state{ID: 9, Status: 2, Price: 5, Filled: 1})

	d = bought(t)
	d.want(replaceOf(7, 5, 4), record{Kind: 5, ID: 7, Price: 5, Qty: 4}, record{Kind: 6, ID: 7, Price: 5, Qty: 3})
	d.wantOrders(state{ID: 7, Status: 1, Price: 5, Open: 3, Filled: 1, Shown: 3}, state{ID: 8, Status: 1, Price: 5, Open: 3, Shown: 3}, state{ID: 9, Status: 2, Price: 5, Filled: 1})

	d = bought(t)
	d.want(replaceOf(7, 5, 1), rejected(7, 6))
}

func TestReplaceOfNoLiveOrder(t *testing.T) {
	d := bought(t)
	none := func(id int) {
		d.t.Helper()
		d.want(replaceOf(id, 5, 2), rejected(id, 3))
		d.want(replaceOf(id, 0, 0), rejected(id, 3))
	}
	none(0)
	none(1)
	none(most)
	none(9)
	d.want(cancelOf(8), cancelled(8, 3, 1))
	none(8)
	d.want(limitOrder(buy, 4, 0, 3), rejected(4, 5))
	none(4)
}

func TestReplaceIsRejected(t *testing.T) {
	for _, c := range []struct{ price, qty, reason int }{
		{0, 2, 5}, {101, 2, 5}, {most, 2, 5}, {0, 0, 5}, {0, 51, 5}, {101, 1, 5},
		{5, 0, 6}, {5, 1, 6}, {5, 51, 6}, {5, most, 6}, {1, 1, 6}, {100, 51, 6}, {4, 0, 6},
	} {
		d := bought(t)
		before := d.engine.Orders()
		d.want(replaceOf(7, c.price, c.qty), rejected(7, c.reason))
		d.wantOrders(before...)
		d.sweeps(limitOrder(sell, 1, 5, 3), traded(1, 7, 5, 2), traded(1, 8, 5, 1))
	}
}

func TestReplaceEdgesThatMayBe(t *testing.T) {
	for _, c := range []struct{ price, qty, keeps int }{
		{5, 2, 1}, {5, 3, 1}, {5, 4, 0}, {5, 50, 0}, {1, 2, 0}, {1, 3, 0}, {100, 2, 0}, {100, 50, 0}, {6, 3, 0}, {4, 3, 0},
	} {
		d := bought(t)
		want := []record{replaced(replaceOf(7, c.price, c.qty), c.keeps)}
		if c.keeps == 0 {
			want = append(want, shown(7, c.price, c.qty-1))
		}
		d.want(replaceOf(7, c.price, c.qty), want...)
		d.wantOrders(state{ID: 7, Status: 1, Price: c.price, Open: c.qty - 1, Filled: 1, Shown: c.qty - 1}, state{ID: 8, Status: 1, Price: 5, Open: 3, Shown: 3}, state{ID: 9, Status: 2, Price: 5, Filled: 1})
	}
}

// What is no more than before is asked of the quantity as it was replaced last, not as it came.
func TestReplaceOfReplaced(t *testing.T) {
	d := bought(t)
	d.keeps(7, 5, 2)
	d.loses(7, 5, 3, shown(7, 5, 2))
	d.loses(7, 6, 3, shown(7, 6, 2))
	d.keeps(7, 6, 3)
	d.loses(7, 5, 3, shown(7, 5, 2))
	d.want(cancelOf(7), cancelled(7, 2, 1))
	d.want(replaceOf(7, 5, 3), rejected(7, 3))
	d.wantOrders(state{ID: 7, Status: 3, Price: 5, Filled: 1, Cancelled: 2}, state{ID: 8, Status: 1, Price: 5, Open: 3, Shown: 3}, state{ID: 9, Status: 2, Price: 5, Filled: 1})
}

func TestPlacesOfReplaced(t *testing.T) {
	d := bought(t)
	d.keeps(7, 5, 2)
	d.sweeps(limitOrder(sell, 1, 5, 2), traded(1, 7, 5, 1), traded(1, 8, 5, 1))

	d = bought(t)
	d.loses(7, 5, 4, shown(7, 5, 3))
	d.sweeps(limitOrder(sell, 1, 5, 4), traded(1, 8, 5, 3), traded(1, 7, 5, 1))

	// To another price and back is the newest place, too.
	d = bought(t)
	d.loses(7, 4, 3, shown(7, 4, 2))
	d.loses(7, 5, 3, shown(7, 5, 2))
	d.sweeps(limitOrder(sell, 1, 5, 4), traded(1, 8, 5, 3), traded(1, 7, 5, 1))
}

// One that loses its place sweeps by its new price with all that is open, and trades as one that comes.
func TestReplaceSweeps(t *testing.T) {
	d := bought(t)
	d.rest(limitOrder(sell, 1, 9, 4), limitOrder(sell, 2, 10, 4), limitOrder(sell, 3, 12, 4))
	d.loses(7, 10, 10, traded(7, 1, 9, 4), traded(7, 2, 10, 4), shown(7, 10, 1))
	d.loses(7, 11, 10, shown(7, 11, 1))
	d.loses(7, 12, 13, traded(7, 3, 12, 4))
	d.wantOrders(
		state{ID: 1, Status: 2, Price: 9, Filled: 4}, state{ID: 2, Status: 2, Price: 10, Filled: 4}, state{ID: 3, Status: 2, Price: 12, Filled: 4},
		state{ID: 7, Status: 2, Price: 12, Filled: 13}, state{ID: 8, Status: 1, Price: 5, Open: 3, Shown: 3}, state{ID: 9, Status: 2, Price: 5, Filled: 1},
	)
	d.want(replaceOf(7, 12, 14), rejected(7, 3))

	d = smallDesk(t)
	d.rest(limitOrder(buy, 1, 9, 4), limitOrder(buy, 2, 8, 4), limitOrder(sell, 3, 12, 6))
	d.loses(3, 8, 5, traded(3, 1, 9, 4), traded(3, 2, 8, 1))
	d.sweeps(limitOrder(buy, 4, 100, 1), shown(4, 100, 1))
	d.wantDrawn(0)
}

// An iceberg that keeps its place shows no more than it did, and none of what it hid; nothing is drawn.
func TestReplaceOfAnIcebergKeepsItsPlace(t *testing.T) {
	for _, c := range []struct{ qty, shows int }{{9, 3}, {8, 3}, {4, 3}, {3, 2}, {2, 1}} {
		d := smallDesk(t, 1)
		d.rest(icebergOrder(sell, 1, 10, 9, 4))
		d.sweeps(limitOrder(buy, 2, 10, 1), traded(2, 1, 10, 1))
		d.rest(limitOrder(sell, 3, 10, 1))
		d.keeps(1, 10, c.qty)
		d.wantOrders(state{ID: 1, Status: 1, Price: 10, Open: c.qty - 1, Filled: 1, Shown: c.shows}, state{ID: 2, Status: 2, Price: 10, Filled: 1}, state{ID: 3, Status: 1, Price: 10, Open: 1, Shown: 1})
		d.wantDrawn(0)
		d.sweeps(limitOrder(buy, 4, 10, 1), traded(4, 1, 10, 1))
	}
}

// An iceberg that loses its place shows its peak again, no more than is open, and nothing is drawn.
func TestReplaceOfAnIcebergLosesItsPlace(t *testing.T) {
	for _, c := range []struct{ price, qty, shows int }{{10, 10, 4}, {11, 9, 4}, {11, 6, 4}, {11, 5, 3}, {11, 3, 1}} {
		d := smallDesk(t, 0)
		d.rest(icebergOrder(sell, 1, 10, 9, 4))
		d.sweeps(limitOrder(buy, 2, 10, 2), traded(2, 1, 10, 2))
		d.loses(1, c.price, c.qty, shown(1, c.price, c.shows))
		d.wantDrawn(0)
		d.wantOrders(state{ID: 1, Status: 1, Price: c.price, Open: c.qty - 2, Filled: 2, Shown: c.shows}, state{ID: 2, Status: 2, Price: 10, Filled: 2})
	}
}

// The peak stays as it came, though fewer or more are left: what is drawn goes by it.
func TestReplaceLeavesThePeak(t *testing.T) {
	d := smallDesk(t, 3)
	d.rest(icebergOrder(sell, 1, 10, 9, 4))
	d.keeps(1, 10, 2)
	d.wantOrders(state{ID: 1, Status: 1, Price: 10, Open: 2, Shown: 2})
	d.loses(1, 10, 20, shown(1, 10, 4))
	d.sweeps(limitOrder(buy, 2, 10, 4), traded(2, 1, 10, 4), shown(1, 10, 4))
	d.wantDrawn(1)
}

// An iceberg that is replaced trades all that it has open, shown or not, as it sweeps.
func TestReplaceOfAnIcebergSweeps(t *testing.T) {
	d := smallDesk(t, 0)
	d.rest(icebergOrder(sell, 1, 10, 9, 2), limitOrder(buy, 2, 8, 5), icebergOrder(buy, 3, 8, 3, 1))
	d.loses(1, 8, 9, traded(1, 2, 8, 5), traded(1, 3, 8, 1), shown(3, 8, 1), traded(1, 3, 8, 1), shown(3, 8, 1), traded(1, 3, 8, 1), shown(1, 8, 1))
	d.wantDrawn(2)
}

func TestReplaceOfAPegThatIsNowhere(t *testing.T) {
	d := smallDesk(t)
	d.sweeps(pegOrder(buy, 3, 5, 0))
	d.want(replaceOf(3, 1, 4), rejected(3, 5))
	d.want(replaceOf(3, 1, 0), rejected(3, 5))
	d.want(replaceOf(3, 0, 0), rejected(3, 6))
	d.want(replaceOf(3, 0, 51), rejected(3, 6))
	d.keeps(3, 0, 5)
	d.keeps(3, 0, 4)
	d.loses(3, 0, 50)
	d.keeps(3, 0, 1)
	d.loses(3, 0, 6)
	d.wantOrders(state{ID: 3, Status: 1, Open: 6})
	d.rest(limitOrder(sell, 4, 1, 1))
	d.want(cancelOf(4), cancelled(4, 1, 1))
	d.sweeps(limitOrder(buy, 5, 10, 1), shown(5, 10, 1), moved(3, 10, 6))
}

func TestReplaceOfAPegThatRests(t *testing.T) {
	d := smallDesk(t)
	d.rest(limitOrder(buy, 1, 10, 1))
	d.sweeps(pegOrder(buy, 3, 5, 0), moved(3, 10, 5))
	d.rest(limitOrder(buy, 2, 10, 1))
	d.want(replaceOf(3, 10, 4), rejected(3, 5))
	d.keeps(3, 0, 4)
	d.wantOrders(state{ID: 1, Status: 1, Price: 10, Open: 1, Shown: 1}, state{ID: 2, Status: 1, Price: 10, Open: 1, Shown: 1}, state{ID: 3, Status: 1, Price: 10, Open: 4, Shown: 4})
	d.sweeps(limitOrder(sell, 4, 10, 2), traded(4, 1, 10, 1), traded(4, 3, 10, 1))
	d.want(replaceOf(3, 0, 1), rejected(3, 6))
	d.loses(3, 0, 7, shown(3, 10, 6))
	d.wantOrders(state{ID: 1, Status: 2, Price: 10, Filled: 1}, state{ID: 2, Status: 1, Price: 10, Open: 1, Shown: 1}, state{ID: 3, Status: 1, Price: 10, Open: 6, Filled: 1, Shown: 6}, state{ID: 4, Status: 2, Price: 10, Filled: 2})
	d.sweeps(limitOrder(sell, 5, 10, 3), traded(5, 2, 10, 1), traded(5, 3, 10, 2), parked(3))
}

// Pegs follow an order that is replaced, and are where they were while it sweeps.
func TestPegsFollowReplaced(t *testing.T) {
	d := smallDesk(t)
	d.rest(limitOrder(buy, 1, 10, 4))
	d.sweeps(pegOrder(buy, 2, 5, -1), moved(2, 9, 5))
	d.loses(1, 12, 4, shown(1, 12, 4), moved(2, 11, 5))
	d.rest(limitOrder(sell, 3, 14, 4))
	d.loses(1, 14, 4, traded(1, 3, 14, 4), parked(2))

	d = smallDesk(t)
	d.rest(limitOrder(buy, 1, 10, 4), limitOrder(sell, 2, 20, 7))
	d.sweeps(pegOrder(buy, 3, 2, 0), moved(3, 10, 2))
	d.loses(2, 10, 7, traded(2, 1, 10, 4), traded(2, 3, 10, 2), shown(2, 10, 1))
}
