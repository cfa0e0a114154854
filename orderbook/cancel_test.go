package orderbook_test

import "testing"

func TestCancel(t *testing.T) {
	d := smallDesk(t)
	d.rest(limitOrder(buy, 7, 5, 3), limitOrder(buy, 8, 5, 4), icebergOrder(sell, 9, 10, 9, 4))
	d.sweeps(limitOrder(sell, 1, 5, 2), traded(1, 7, 5, 2))
	d.want(cancelOf(7), cancelled(7, 1, 1))
	d.want(cancelOf(9), cancelled(9, 9, 1))
	d.wantOrders(
		state{ID: 1, Status: 2, Price: 5, Filled: 2},
		state{ID: 7, Status: 3, Price: 5, Filled: 2, Cancelled: 1},
		state{ID: 8, Status: 1, Price: 5, Open: 4, Shown: 4},
		state{ID: 9, Status: 3, Price: 10, Cancelled: 9},
	)
	d.wantDrawn(0)
}

// What is gone trades no more.
func TestCancelledOrderDoesNotRest(t *testing.T) {
	d := smallDesk(t)
	d.rest(limitOrder(buy, 7, 6, 3), limitOrder(buy, 8, 5, 4), limitOrder(sell, 9, 8, 3), limitOrder(sell, 10, 9, 3))
	d.want(cancelOf(7), cancelled(7, 3, 1))
	d.sweeps(limitOrder(sell, 1, 5, 2), traded(1, 8, 5, 2))
	d.want(cancelOf(9), cancelled(9, 3, 1))
	d.sweeps(limitOrder(buy, 2, 9, 2), traded(2, 10, 9, 2))
}

func TestCancelOfNoLiveOrder(t *testing.T) {
	d := smallDesk(t)
	none := func(id int) { d.t.Helper(); d.want(cancelOf(id), rejected(id, 3)) }
	none(0)
	none(7)
	none(most)
	d.want(limitOrder(buy, 7, 0, 3), rejected(7, 5))
	none(7)
	d.rest(limitOrder(buy, 7, 5, 3))
	none(8)
	d.want(cancelOf(7), cancelled(7, 3, 1))
	none(7)
	none(7)
	d.rest(limitOrder(buy, 8, 5, 3))
	d.sweeps(limitOrder(sell, 9, 5, 3), traded(9, 8, 5, 3))
	none(8)
	none(9)
	d.wantOrders(state{ID: 7, Status: 3, Price: 5, Cancelled: 3}, state{ID: 8, Status: 2, Price: 5, Filled: 3}, state{ID: 9, Status: 2, Price: 5, Filled: 3})
}
