package orderbook_test

import "testing"

func TestTickForth(t *testing.T) {
	d := smallDesk(t)
	late := func(id, time int) {
		d.t.Helper()
		d.want(living(limitOrder(buy, id, 5, 3), until, time), rejected(id, 8))
	}
	d.want(tickOf(0))
	d.want(tickOf(5))
	d.want(tickOf(4), rejected(0, 10))
	d.want(tickOf(0), rejected(0, 10))
	late(7, 4)
	late(7, 5)
	d.sweeps(living(limitOrder(buy, 7, 5, 3), until, 6), shown(7, 5, 3))
	d.want(tickOf(5))
	d.want(tickOf(6), cancelled(7, 3, 2))
	late(8, 6)
	d.want(tickOf(most))
	late(8, most)
	d.want(tickOf(most))
	d.want(tickOf(most-1), rejected(0, 10))
	d.wantOrders(state{ID: 7, Status: 3, Price: 5, Cancelled: 3})
}

// A tick that is rejected sends none away, and leaves the time as it was.
func TestTickBackChangesNothing(t *testing.T) {
	d := smallDesk(t)
	d.want(tickOf(10))
	d.sweeps(living(limitOrder(buy, 1, 5, 3), until, 12), shown(1, 5, 3))
	d.want(tickOf(9), rejected(0, 10))
	d.wantOrders(state{ID: 1, Status: 1, Price: 5, Open: 3, Shown: 3})
	d.want(living(limitOrder(buy, 2, 5, 3), until, 10), rejected(2, 8))
	d.want(tickOf(12), cancelled(1, 3, 2))
}

// Whose time is not above the engine's is gone, and of no other life, in the order of coming.
func TestTickSendsAway(t *testing.T) {
	d := smallDesk(t)
	d.rest(
		living(limitOrder(buy, 9, 5, 3), until, 7), living(limitOrder(buy, 2, 6, 4), until, 8), living(limitOrder(buy, 6, 7, 5), until, 9),
		living(icebergOrder(sell, 1, 20, 6, 2), until, 1), limitOrder(buy, 5, 5, 3), living(limitOrder(buy, 4, 5, 3), day, 0), living(limitOrder(sell, 3, 21, 7), until, most),
	)
	d.sweeps(limitOrder(sell, 8, 7, 2), traded(8, 6, 7, 2))
	d.want(tickOf(8), cancelled(9, 3, 2), cancelled(2, 4, 2), cancelled(1, 6, 2))
	d.wantOrders(
		state{ID: 1, Status: 3, Price: 20, Cancelled: 6}, state{ID: 2, Status: 3, Price: 6, Cancelled: 4}, state{ID: 3, Status: 1, Price: 21, Open: 7, Shown: 7},
		state{ID: 4, Status: 1, Price: 5, Open: 3, Shown: 3}, state{ID: 5, Status: 1, Price: 5, Open: 3, Shown: 3}, state{ID: 6, Status: 1, Price: 7, Open: 3, Filled: 2, Shown: 3},
		state{ID: 8, Status: 2, Price: 7, Filled: 2}, state{ID: 9, Status: 3, Price: 5, Cancelled: 3},
	)
	d.want(cancelOf(9), rejected(9, 3))
	d.want(tickOf(9), cancelled(6, 3, 2))
	d.want(tickOf(most - 1))
	d.want(tickOf(most), cancelled(3, 7, 2))
	d.sweeps(limitOrder(sell, 7, 1, 9), traded(7, 5, 5, 3), traded(7, 4, 5, 3), shown(7, 1, 3))
	d.wantDrawn(0)
}

// The order of coming is that in which they were accepted: neither a new place nor a replace changes it.
func TestTickAndCloseInTheOrderOfComing(t *testing.T) {
	for _, c := range []struct {
		life, time, reason int
		end                command
	}{{until, 5, 2, tickOf(5)}, {day, 0, 3, closing()}} {
		d := smallDesk(t, 0)
		d.rest(living(limitOrder(buy, 7, 5, 3), c.life, c.time), living(icebergOrder(buy, 4, 6, 9, 1), c.life, c.time), living(limitOrder(buy, 8, 5, 3), c.life, c.time))
		d.sweeps(living(pegOrder(buy, 3, 2, 0), c.life, c.time), moved(3, 6, 2))
		d.loses(7, 5, 4, shown(7, 5, 4))
		d.sweeps(limitOrder(sell, 1, 6, 1), traded(1, 4, 6, 1), shown(4, 6, 1))
		d.want(c.end, cancelled(7, 4, c.reason), cancelled(4, 8, c.reason), cancelled(8, 3, c.reason), cancelled(3, 2, c.reason))
		d.want(c.end)
		d.wantOrders(
			state{ID: 1, Status: 2, Price: 6, Filled: 1}, state{ID: 3, Status: 3, Price: 6, Cancelled: 2}, state{ID: 4, Status: 3, Price: 6, Filled: 1, Cancelled: 8},
			state{ID: 7, Status: 3, Price: 5, Cancelled: 4}, state{ID: 8, Status: 3, Price: 5, Cancelled: 3},
		)
		d.rest(limitOrder(sell, 9, 1, 9))
	}
}

// Close takes the orders of the day, and leaves the others and the time.
func TestClose(t *testing.T) {
	d := smallDesk(t)
	d.want(closing())
	d.want(tickOf(3))
	d.rest(living(limitOrder(buy, 9, 5, 3), day, 0), living(limitOrder(buy, 2, 6, 4), until, 8), limitOrder(buy, 6, 4, 5), living(icebergOrder(sell, 1, 20, 6, 2), day, 0))
	d.want(closing(), cancelled(9, 3, 3), cancelled(1, 6, 3))
	d.want(closing())
	d.want(cancelOf(9), rejected(9, 3))
	d.want(replaceOf(1, 20, 6), rejected(1, 3))
	d.want(limitOrder(buy, 9, 5, 3), rejected(9, 2))
	d.wantOrders(
		state{ID: 1, Status: 3, Price: 20, Cancelled: 6}, state{ID: 2, Status: 1, Price: 6, Open: 4, Shown: 4},
		state{ID: 6, Status: 1, Price: 4, Open: 5, Shown: 5}, state{ID: 9, Status: 3, Price: 5, Cancelled: 3},
	)
	d.want(living(limitOrder(buy, 3, 5, 3), until, 3), rejected(3, 8))
	d.rest(living(limitOrder(buy, 3, 5, 3), day, 0))
	d.sweeps(limitOrder(sell, 4, 4, 9), traded(4, 2, 6, 4), traded(4, 3, 5, 3), traded(4, 6, 4, 2))
	d.want(closing())
	d.wantDrawn(0)
}

// What is gone makes room for others.
func TestTickAndCloseMakeRoom(t *testing.T) {
	d := newDesk(t, config{Orders: 2, MaxPrice: 100, MaxQty: 50})
	d.rest(living(limitOrder(buy, 1, 5, 3), day, 0), living(limitOrder(buy, 2, 5, 3), until, 4))
	d.want(limitOrder(buy, 3, 5, 3), rejected(3, 9))
	d.want(closing(), cancelled(1, 3, 3))
	d.rest(limitOrder(buy, 3, 5, 3))
	d.want(limitOrder(buy, 4, 5, 3), rejected(4, 9))
	d.want(tickOf(4), cancelled(2, 3, 2))
	d.rest(living(limitOrder(buy, 4, 5, 3), day, 0))
	d.want(limitOrder(buy, 5, 5, 3), rejected(5, 9))
}

// Pegs are laid behind a tick or a close as behind any frame; those that are gone are not.
func TestPegsBehindTickAndClose(t *testing.T) {
	d := smallDesk(t)
	d.sweeps(living(pegOrder(buy, 1, 2, -1), day, 0))
	d.sweeps(pegOrder(buy, 2, 3, -2))
	d.sweeps(living(pegOrder(sell, 3, 4, 1), until, 5))
	d.sweeps(living(limitOrder(buy, 4, 10, 1), day, 0), shown(4, 10, 1), moved(1, 9, 2), moved(2, 8, 3))
	d.rest(living(limitOrder(buy, 5, 7, 1), until, 5))
	d.want(closing(), cancelled(1, 2, 3), cancelled(4, 1, 3), moved(2, 5, 3))
	d.want(tickOf(5), cancelled(3, 4, 2), cancelled(5, 1, 2), parked(2))
	d.wantOrders(
		state{ID: 1, Status: 3, Price: 9, Cancelled: 2}, state{ID: 2, Status: 1, Open: 3}, state{ID: 3, Status: 3, Cancelled: 4},
		state{ID: 4, Status: 3, Price: 10, Cancelled: 1}, state{ID: 5, Status: 3, Price: 7, Cancelled: 1},
	)
}

// Engines have each their own time.
func TestTimesOfTwoEngines(t *testing.T) {
	one, two := smallDesk(t), smallDesk(t)
	one.want(tickOf(9))
	two.want(tickOf(3))
	one.want(tickOf(8), rejected(0, 10))
	two.sweeps(living(limitOrder(buy, 1, 5, 3), until, 4), shown(1, 5, 3))
	one.want(tickOf(10))
	two.wantOrders(state{ID: 1, Status: 1, Price: 5, Open: 3, Shown: 3})
}
