package orderbook_test

import (
	"testing"

	"orderbook/orderbook"
)

// mixed tells numbers that look mixed, and are the same each time.
type mixed uint64

func (m *mixed) below(n int) int {
	*m = *m*6364136223846793005 + 1442695040888963407
	return int(uint64(*m)>>33) % n
}

func mixedCommand(m *mixed, id int) command {
	side, price, qty := 1+m.below(2), 40+m.below(12), 1+m.below(20)
	switch m.below(6) {
	case 0:
		return cancelOf(1 + m.below(id))
	case 1, 2:
		return icebergOrder(side, id, price, qty, 1+m.below(qty))
	}
	return limitOrder(side, id, price, qty)
}

// Whatever comes, the orders keep to what the document says of all of them.
func TestBookHolds(t *testing.T) {
	for seed := range 40 {
		m := mixed(seed)
		d := newDesk(t, config{Orders: 1 + m.below(30), MaxPrice: 100, MaxQty: 50}, m.below(90), -m.below(90), m.below(1<<40))
		asked := map[int]terms{}
		draws := 0
		for id := 1; id <= 300; id++ {
			c := mixedCommand(&m, id)
			for _, r := range d.do(c) {
				switch {
				case r.Kind == 1:
					asked[r.ID] = c.Terms
				case r.Kind == 6 && r.ID != c.ID:
					draws++
				}
			}
			if !bookHolds(d, asked) {
				t.Fatalf("seed %d, behind %+v: %+v", seed, c, d.engine.Orders())
			}
		}
		d.wantDrawn(draws)
	}
}

func bookHolds(d *desk, asked map[int]terms) bool {
	highest, lowest := 0, 1000
	var filled [3]int
	list := d.engine.Orders()
	for _, s := range list {
		o := asked[s.ID]
		if s.Open+s.Filled+s.Cancelled != o.Qty || !standsWell(s, o) {
			return false
		}
		filled[o.Side] += s.Filled
		if s.Shown > 0 && o.Side == buy {
			highest = max(highest, s.Price)
		}
		if s.Shown > 0 && o.Side == sell {
			lowest = min(lowest, s.Price)
		}
	}
	return len(list) == len(asked) && highest < lowest && filled[buy] == filled[sell]
}

func standsWell(s state, o terms) bool {
	switch s.Status {
	case 1:
		most := s.Open
		if o.Type == iceberg {
			most = min(o.Peak, s.Open)
		}
		return s.Cancelled == 0 && s.Shown > 0 && s.Shown <= most && (o.Type == iceberg || s.Shown == most)
	case 2:
		return s.Filled == o.Qty && s.Shown == 0
	case 3:
		return s.Cancelled > 0 && s.Open == 0 && s.Shown == 0
	}
	return false
}

// FuzzApply: no bytes make an engine panic, and in two pieces they tell what they tell in one.
func FuzzApply(f *testing.F) {
	f.Add("", 0)
	f.Add("\x00\x01\x05\x05\x02\x00\x00\x00\x07", 3)
	f.Add("\x1c\x01\x00\x00\x00\x07\x01\x02\x00\x00\x00\x05\x00\x00\x00\x03\x00\x00\x00\x01\x00\x00\x00\x00\x02\x00\x00\x00\x00", 9)
	f.Fuzz(func(t *testing.T, text string, cut int) {
		cut = min(max(cut, 0), len(text))
		whole, _ := orderbook.New(config{3, 100, 50}, &draws{numbers: []int{5}})
		pieces, _ := orderbook.New(config{3, 100, 50}, &draws{numbers: []int{5}})
		one := whole.Apply(text)
		two := pieces.Apply(text[:cut]) + pieces.Apply(text[cut:])
		list, err := orderbook.Records(one)
		if one != two || err != nil {
			t.Fatalf("Apply(%x): %x, %v; cut at %d: %x", text, one, err, cut, two)
		}
		for i, r := range list {
			if r.Seq != i+1 {
				t.Fatalf("Apply(%x): record %d is %+v", text, i, r)
			}
		}
	})
}
