package orderbook_test

import (
	"testing"

	"orderbook/orderbook"
)

// mixed tells numbers that look mixed, and are the same each time.
type mixed uint64

func (m *mixed) below(n int) int {
	*m = *m*6364136223846793005 + 1442695040888963407
	return int(uint64(*m)>>33) % n
}

func mixedDesk(t *testing.T, m *mixed) *desk {
	t.Helper()
	return newDesk(t, config{Orders: 1 + m.below(30), MaxPrice: 52, MaxQty: 50}, m.below(90), -m.below(90), m.below(1<<40))
}

func mixedCommand(m *mixed, id int) command {
	side, price, qty := 1+m.below(2), 40+m.below(12), 1+m.below(20)
	life, time := 1+m.below(3), 0
	if life == until {
		time = id + m.below(60)
	}
	switch m.below(12) {
	case 0:
		return cancelOf(1 + m.below(id))
	case 1, 2:
		return replaceOf(max(1, id-m.below(30)), price*m.below(2), qty)
	case 3:
		return tickOf(max(0, id-m.below(3)))
	case 4:
		if m.below(4) == 0 {
			return closing()
		}
		return cancelOf(max(1, id-m.below(30)))
	case 5, 6:
		return living(icebergOrder(side, id, price, qty, 1+m.below(qty)), life, time)
	case 7, 8:
		offset := m.below(4)
		if side == buy {
			offset = -offset
		}
		return living(pegOrder(side, id, qty, offset), life, time)
	}
	return living(limitOrder(side, id, price, qty), life, time)
}

// ledger is what the commands asked, as far as they were not rejected.
type ledger struct {
	asked map[int]terms
	time  int
	ended bool // the day has just been closed
	draws int
}

func (l *ledger) note(c command, told []record) {
	for _, r := range told {
		switch {
		case r.Kind == 1:
			l.asked[r.ID] = c.Terms
		case r.Kind == 5:
			o := l.asked[r.ID]
			o.Price, o.Qty = r.Price, r.Qty
			l.asked[r.ID] = o
		case r.Kind == 6 && r.ID != c.ID:
			l.draws++
		}
	}
	if c.Kind == 4 {
		l.time = max(l.time, c.Time)
	}
	l.ended = c.Kind == 5
}

// Whatever comes, the orders keep to what the document says of all of them.
func TestBookHolds(t *testing.T) {
	for seed := range 100 {
		m := mixed(seed)
		d := mixedDesk(t, &m)
		l := &ledger{asked: map[int]terms{}}
		for id := 1; id <= 300; id++ {
			c := mixedCommand(&m, id)
			l.note(c, d.do(c))
			if !bookHolds(d, l) {
				t.Fatalf("seed %d, behind %+v: %+v", seed, c, d.engine.Orders())
			}
			d.wantDrawn(l.draws)
		}
	}
}

func bookHolds(d *desk, l *ledger) bool {
	var filled [3]int
	list := d.engine.Orders()
	highest, lowest := bestPrices(list, l.asked, true)
	follow := map[int]int{}
	follow[buy], follow[sell] = bestPrices(list, l.asked, false)
	for _, s := range list {
		o := l.asked[s.ID]
		if s.Open+s.Filled+s.Cancelled != o.Qty || !standsWell(s, o, follow[o.Side]) || s.Status == 1 && l.isOver(o) {
			return false
		}
		filled[o.Side] += s.Filled
	}
	return len(list) == len(l.asked) && highest < lowest && filled[buy] == filled[sell]
}

// noSeller is above all prices.
const noSeller = 1000

// bestPrices tells the highest price at which a buyer rests, and the lowest of the sellers: 0 and noSeller, if none does.
func bestPrices(list []state, asked map[int]terms, pegsToo bool) (int, int) {
	highest, lowest := 0, noSeller
	for _, s := range list {
		o := asked[s.ID]
		if s.Shown == 0 || o.Type == peg && !pegsToo {
			continue
		}
		if o.Side == buy {
			highest = max(highest, s.Price)
		} else {
			lowest = min(lowest, s.Price)
		}
	}
	return highest, lowest
}

func (l *ledger) isOver(o terms) bool {
	return o.Life == until && o.Time <= l.time || o.Life == day && l.ended
}

func standsWell(s state, o terms, follow int) bool {
	switch s.Status {
	case 1:
		return s.Cancelled == 0 && s.Open > 0 && restsWell(s, o, follow)
	case 2:
		return s.Filled == o.Qty && s.Shown == 0
	case 3:
		return s.Cancelled > 0 && s.Open == 0 && s.Shown == 0
	}
	return false
}

func restsWell(s state, o terms, follow int) bool {
	switch o.Type {
	case limit:
		return s.Price == o.Price && s.Shown == s.Open
	case iceberg:
		return s.Price == o.Price && s.Shown > 0 && s.Shown <= min(o.Peak, s.Open)
	}
	if follow == 0 || follow == noSeller {
		return s.Price == 0 && s.Shown == 0
	}
	return s.Price == min(max(follow+o.Offset, 1), 52) && s.Shown == s.Open
}

// FuzzApply: no bytes make an engine panic, and in two pieces they tell what they tell in one.
func FuzzApply(f *testing.F) {
	f.Add("", 0)
	f.Add("\x00\x01\x05\x05\x02\x00\x00\x00\x07", 3)
	f.Add("\x1c\x01\x00\x00\x00\x07\x01\x02\x00\x00\x00\x05\x00\x00\x00\x03\x00\x00\x00\x01\x00\x00\x00\x00\x02\x00\x00\x00\x00", 9)
	f.Add("\x05\x04\x00\x00\x00\x02\x0d\x03\x00\x00\x00\x07\x00\x00\x00\x05\x00\x00\x00\x02\x01\x05", 7)
	f.Fuzz(func(t *testing.T, text string, cut int) {
		cut = min(max(cut, 0), len(text))
		whole, _ := orderbook.New(config{3, 100, 50}, &draws{numbers: []int{5}})
		pieces, _ := orderbook.New(config{3, 100, 50}, &draws{numbers: []int{5}})
		one := whole.Apply(text)
		two := pieces.Apply(text[:cut]) + pieces.Apply(text[cut:])
		list, err := orderbook.Records(one)
		if one != two || err != nil {
			t.Fatalf("Apply(%x): %x, %v; cut at %d: %x", text, one, err, cut, two)
		}
		for i, r := range list {
			if r.Seq != i+1 {
				t.Fatalf("Apply(%x): record %d is %+v", text, i, r)
			}
		}
	})
}
