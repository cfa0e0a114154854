package orderbook_test

import (
	"slices"
	"testing"

	"orderbook/orderbook"
)

type (
	config = orderbook.Config
	state  = orderbook.State
)

const (
	buy  = 1
	sell = 2

	limit   = 1
	iceberg = 2
	peg     = 3

	day     = 1
	lasting = 2
	until   = 3
)

// draws tells the numbers of a list one at a time, and counts how often it was asked.
type draws struct {
	numbers []int
	asked   int
}

func (d *draws) Next() int {
	d.asked++
	if len(d.numbers) == 0 {
		return 0
	}
	return d.numbers[(d.asked-1)%len(d.numbers)]
}

// desk is an engine, and how many records it has told.
type desk struct {
	t      *testing.T
	engine *orderbook.Engine
	draws  *draws
	told   int
}

func newDesk(t *testing.T, c config, numbers ...int) *desk {
	t.Helper()
	d := &draws{numbers: numbers}
	e, err := orderbook.New(c, d)
	if e == nil || err != nil {
		t.Fatalf("New(%+v): %v, %v", c, e, err)
	}
	return &desk{t: t, engine: e, draws: d}
}

// smallDesk is one that most tests have room in.
func smallDesk(t *testing.T, numbers ...int) *desk {
	t.Helper()
	return newDesk(t, config{Orders: 9, MaxPrice: 100, MaxQty: 50}, numbers...)
}

func frameOf(t *testing.T, c command) string {
	t.Helper()
	frame, err := orderbook.Encode(c)
	if err != nil {
		t.Fatalf("the test's own command %+v: %v", c, err)
	}
	return frame
}

// apply hands bytes in, and tells the records that come: their numbers are looked at here, and are 0 in what is told.
func (d *desk) apply(text string) []record {
	d.t.Helper()
	list, err := orderbook.Records(d.engine.Apply(text))
	if err != nil {
		d.t.Fatalf("Apply(%x) told no records: %v", text, err)
	}
	for i := range list {
		d.told++
		if list[i].Seq != d.told {
			d.t.Errorf("Apply(%x): record %+v should have the number %d", text, list[i], d.told)
		}
		list[i].Seq = 0
	}
	return list
}

func (d *desk) do(c command) []record {
	d.t.Helper()
	return d.apply(frameOf(d.t, c))
}

func (d *desk) want(c command, want ...record) {
	d.t.Helper()
	if got := d.do(c); !slices.Equal(got, want) {
		d.t.Errorf("%+v:\ngot  %+v\nwant %+v", c, got, want)
	}
}

func (d *desk) wantRaw(text string, want ...record) {
	d.t.Helper()
	if got := d.apply(text); !slices.Equal(got, want) {
		d.t.Errorf("%x:\ngot  %+v\nwant %+v", text, got, want)
	}
}

func (d *desk) wantOrders(want ...state) {
	d.t.Helper()
	if got := d.engine.Orders(); !slices.Equal(got, want) {
		d.t.Errorf("orders:\ngot  %+v\nwant %+v", got, want)
	}
}

func (d *desk) wantDrawn(want int) {
	d.t.Helper()
	if d.draws.asked != want {
		d.t.Errorf("%d numbers were drawn; want %d", d.draws.asked, want)
	}
}

func newOrder(t terms) command { return command{1, t} }

func limitOrder(side, id, price, qty int) command {
	return newOrder(terms{ID: id, Side: side, Type: limit, Price: price, Qty: qty, Life: lasting})
}

func icebergOrder(side, id, price, qty, peak int) command {
	return newOrder(terms{ID: id, Side: side, Type: iceberg, Price: price, Qty: qty, Peak: peak, Life: lasting})
}

func pegOrder(side, id, qty, offset int) command {
	return newOrder(terms{ID: id, Side: side, Type: peg, Qty: qty, Offset: offset, Life: lasting})
}

func cancelOf(id int) command { return command{2, terms{ID: id}} }

func replaceOf(id, price, qty int) command {
	return command{3, terms{ID: id, Price: price, Qty: qty}}
}

func tickOf(time int) command { return command{4, terms{Time: time}} }

func closing() command { return command{Kind: 5} }

// living gives an order another life.
func living(c command, life, time int) command {
	c.Life, c.Time = life, time
	return c
}

// accepted is what is told of a new order.
func accepted(c command) record {
	return record{Kind: 1, ID: c.ID, Other: c.Side, Price: c.Price, Qty: c.Qty, Reason: c.Type}
}

func rejected(id, reason int) record { return record{Kind: 2, ID: id, Reason: reason} }

func traded(id, other, price, qty int) record {
	return record{Kind: 3, ID: id, Other: other, Price: price, Qty: qty}
}

func cancelled(id, qty, reason int) record {
	return record{Kind: 4, ID: id, Qty: qty, Reason: reason}
}

// replaced is what is told of a replace: reason 1, if the order keeps its place.
func replaced(c command, reason int) record {
	return record{Kind: 5, ID: c.ID, Price: c.Price, Qty: c.Qty, Reason: reason}
}

func moved(id, price, qty int) record { return record{Kind: 7, ID: id, Price: price, Qty: qty} }

func parked(id int) record { return record{Kind: 8, ID: id} }

func shown(id, price, qty int) record { return record{Kind: 6, ID: id, Price: price, Qty: qty} }

// rest lays orders into the book that meet none there.
func (d *desk) rest(orders ...command) {
	d.t.Helper()
	for _, c := range orders {
		qty := c.Qty
		if c.Type == iceberg {
			qty = c.Peak
		}
		d.want(c, accepted(c), shown(c.ID, c.Price, qty))
	}
}

// keeps hands in a replace that leaves the order at its place.
func (d *desk) keeps(id, price, qty int, want ...record) {
	d.t.Helper()
	c := replaceOf(id, price, qty)
	d.want(c, append([]record{replaced(c, 1)}, want...)...)
}

// loses hands in a replace by which the order loses its place.
func (d *desk) loses(id, price, qty int, want ...record) {
	d.t.Helper()
	c := replaceOf(id, price, qty)
	d.want(c, append([]record{replaced(c, 0)}, want...)...)
}

// sweeps hands in an order, and looks what is told of it behind its acceptance.
func (d *desk) sweeps(c command, want ...record) {
	d.t.Helper()
	d.want(c, append([]record{accepted(c)}, want...)...)
}
