package orderbook_test

import (
	"math"
	"slices"
	"testing"
)

// The orders that the tests bend: each of them is accepted as it is.
func goodOrders() []terms {
	return []terms{
		{ID: 7, Side: buy, Type: limit, Price: 5, Qty: 3, Life: lasting},
		{ID: 7, Side: sell, Type: iceberg, Price: 5, Qty: 3, Peak: 2, Life: until, Time: 4},
		{ID: 7, Side: buy, Type: peg, Qty: 3, Offset: -2, Life: 1},
		{ID: 7, Side: sell, Type: peg, Qty: 3, Offset: 2, Life: lasting},
	}
}

func TestNewOrderIsAccepted(t *testing.T) {
	for _, o := range goodOrders() {
		d := smallDesk(t)
		switch o.Type {
		case limit:
			d.sweeps(newOrder(o), shown(7, 5, 3))
		case iceberg:
			d.sweeps(newOrder(o), shown(7, 5, 2))
		case peg:
			d.sweeps(newOrder(o))
		}
		d.wantDrawn(0)
	}
}

func TestPegThatCameIsNowhere(t *testing.T) {
	d := smallDesk(t)
	d.sweeps(pegOrder(buy, 3, 4, -2))
	d.sweeps(pegOrder(sell, 4, 5, 0))
	d.wantOrders(state{ID: 3, Status: 1, Open: 4}, state{ID: 4, Status: 1, Open: 5})
	d.want(cancelOf(4), cancelled(4, 5, 1))
	d.wantOrders(state{ID: 3, Status: 1, Open: 4}, state{ID: 4, Status: 3, Cancelled: 5})
}

// bend is a change of one number, and why the order is rejected for it (0: it is not).
type bend struct {
	set    func(*terms, int)
	number int
	reason int
}

func setID(o *terms, n int)     { o.ID = n }
func setSide(o *terms, n int)   { o.Side = n }
func setType(o *terms, n int)   { o.Type = n }
func setPrice(o *terms, n int)  { o.Price = n }
func setQty(o *terms, n int)    { o.Qty = n }
func setPeak(o *terms, n int)   { o.Peak = n }
func setOffset(o *terms, n int) { o.Offset = n }
func setLife(o *terms, n int)   { o.Life = n }
func setTime(o *terms, n int)   { o.Time = n }

func wantBends(t *testing.T, o terms, bends []bend) {
	t.Helper()
	for _, b := range bends {
		d := smallDesk(t)
		bent := o
		b.set(&bent, b.number)
		got := d.do(newOrder(bent))
		if b.reason == 0 {
			if len(got) == 0 || got[0] != accepted(newOrder(bent)) {
				t.Errorf("%+v: %+v; want it accepted", bent, got)
			}
			continue
		}
		if !slices.Equal(got, []record{rejected(bent.ID, b.reason)}) {
			t.Errorf("%+v: %+v; want it rejected for %d", bent, got, b.reason)
		}
		d.wantOrders()
	}
}

func TestNewOrderEdgesOfAll(t *testing.T) {
	for _, o := range goodOrders() {
		wantBends(t, o, []bend{
			{setID, 0, 4}, {setID, 1, 0}, {setID, most, 0}, {setID, 1 << 31, 0},
			{setSide, 0, 4}, {setSide, 3, 4}, {setSide, 255, 4},
			{setType, 0, 4}, {setType, 4, 4}, {setType, 255, 4},
			{setLife, 0, 4}, {setLife, 4, 4}, {setLife, 255, 4},
			{setQty, 0, 6}, {setQty, 50, 0}, {setQty, 51, 6}, {setQty, most, 6},
		})
	}
}

func TestNewOrderEdgesOfTypes(t *testing.T) {
	orders := goodOrders()
	for _, o := range orders[:2] {
		wantBends(t, o, []bend{
			{setPrice, 0, 5}, {setPrice, 1, 0}, {setPrice, 100, 0}, {setPrice, 101, 5}, {setPrice, most, 5},
			{setOffset, 1, 7}, {setOffset, -1, 7}, {setOffset, math.MinInt32, 7},
		})
	}
	wantBends(t, orders[0], []bend{
		{setQty, 1, 0}, {setPeak, 1, 6}, {setPeak, 3, 6}, {setPeak, most, 6},
	})
	wantBends(t, orders[1], []bend{
		{setPeak, 0, 6}, {setPeak, 1, 0}, {setPeak, 3, 0}, {setPeak, 4, 6}, {setPeak, most, 6}, {setQty, 2, 0}, {setQty, 1, 6},
	})
	for _, o := range orders[2:] {
		wantBends(t, o, []bend{
			{setPrice, 1, 5}, {setPrice, 100, 5}, {setPrice, most, 5},
			{setPeak, 1, 6}, {setPeak, 3, 6}, {setQty, 1, 0},
		})
	}
	wantBends(t, orders[2], []bend{
		{setOffset, 0, 0}, {setOffset, 1, 7}, {setOffset, -100, 0}, {setOffset, -101, 7}, {setOffset, math.MinInt32, 7}, {setOffset, math.MaxInt32, 7},
	})
	wantBends(t, orders[3], []bend{
		{setOffset, 0, 0}, {setOffset, -1, 7}, {setOffset, 100, 0}, {setOffset, 101, 7}, {setOffset, math.MinInt32, 7}, {setOffset, math.MaxInt32, 7},
	})
}

func TestNewOrderEdgesOfLives(t *testing.T) {
	for life := 1; life <= 2; life++ {
		wantBends(t, terms{ID: 7, Side: buy, Type: limit, Price: 5, Qty: 3, Life: life}, []bend{
			{setTime, 0, 0}, {setTime, 1, 8}, {setTime, most, 8},
		})
	}
	wantBends(t, terms{ID: 7, Side: buy, Type: limit, Price: 5, Qty: 3, Life: until}, []bend{
		{setTime, 0, 8}, {setTime, 1, 0}, {setTime, most, 0},
	})
}

// An order that is wrong in everything from one reason on is rejected for the first of them.
func TestNewOrderFirstReason(t *testing.T) {
	d := newDesk(t, config{Orders: 1, MaxPrice: 100, MaxQty: 50})
	d.rest(limitOrder(buy, 7, 5, 3))
	for _, o := range goodOrders() {
		wrong := []struct {
			reason int
			mend   func(*terms)
		}{
			{4, func(b *terms) { b.Side, b.Type, b.Life = o.Side, o.Type, o.Life }},
			{2, func(b *terms) { b.ID = 8 }},
			{5, func(b *terms) { b.Price = o.Price }},
			{6, func(b *terms) { b.Qty, b.Peak = o.Qty, o.Peak }},
			{7, func(b *terms) { b.Offset = o.Offset }},
			{8, func(b *terms) { b.Time = o.Time }},
		}
		bent := terms{ID: 7, Price: 101, Qty: 51, Peak: 52, Offset: 101, Time: 1}
		if o.Life == until {
			bent.Time = 0
		}
		for _, w := range wrong {
			d.want(newOrder(bent), rejected(bent.ID, w.reason))
			w.mend(&bent)
		}
		d.want(newOrder(bent), rejected(8, 9))
		bent.ID = 0
		d.want(newOrder(bent), rejected(0, 4))
	}
	d.wantOrders(state{ID: 7, Status: 1, Price: 5, Open: 3, Shown: 3})
}

// An id is used up by an order that was accepted, whatever has become of it, and not by one that was rejected.
func TestIDsAreAcceptedOnce(t *testing.T) {
	d := smallDesk(t)
	again := func(id int) { d.t.Helper(); d.want(limitOrder(sell, id, 100, 1), rejected(id, 2)) }
	d.want(limitOrder(buy, 7, 0, 3), rejected(7, 5))
	d.rest(limitOrder(buy, 7, 5, 3))
	again(7)
	d.sweeps(limitOrder(sell, 8, 5, 3), traded(8, 7, 5, 3))
	again(7)
	again(8)
	d.rest(limitOrder(buy, 9, 5, 3))
	d.want(cancelOf(9), cancelled(9, 3, 1))
	again(9)
	d.sweeps(pegOrder(buy, 10, 1, 0))
	again(10)
	d.want(cancelOf(10), cancelled(10, 1, 1))
	again(10)
}

func TestFull(t *testing.T) {
	for _, room := range []int{1, 2, 64} {
		d := newDesk(t, config{Orders: room, MaxPrice: 100, MaxQty: 50})
		for id := 1; id < room; id++ {
			d.rest(limitOrder(buy, id, 5, 3))
		}
		d.sweeps(pegOrder(sell, 100, 3, 0))
		full := func(id int) { d.t.Helper(); d.want(limitOrder(sell, id, 5, 3), rejected(id, 9)) }
		full(101)
		full(101)
		d.want(cancelOf(100), cancelled(100, 3, 1))
		d.rest(limitOrder(buy, 101, 5, 3))
		full(102)
	}
}

// What is filled makes room, and so does an order that is filled as it comes; while it sweeps it needs room all the same.
func TestFilledOrdersMakeRoom(t *testing.T) {
	d := newDesk(t, config{Orders: 2, MaxPrice: 100, MaxQty: 50})
	d.rest(limitOrder(buy, 1, 5, 3), limitOrder(buy, 2, 4, 3))
	d.want(limitOrder(sell, 3, 5, 3), rejected(3, 9))
	d.want(cancelOf(2), cancelled(2, 3, 1))
	d.sweeps(limitOrder(sell, 3, 5, 1), traded(3, 1, 5, 1))
	d.sweeps(limitOrder(sell, 4, 5, 2), traded(4, 1, 5, 2))
	d.rest(limitOrder(buy, 5, 5, 3), limitOrder(buy, 6, 5, 3))
	d.want(limitOrder(sell, 7, 5, 3), rejected(7, 9))
}
