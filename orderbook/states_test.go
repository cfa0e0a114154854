package orderbook_test

import (
	"slices"
	"testing"
)

func TestOrdersByTheirIDs(t *testing.T) {
	ids := []int{most, 3, 1 << 31, 1, 256, 2, 1<<31 - 1}
	d := smallDesk(t)
	var want []state
	for i, id := range ids {
		d.rest(limitOrder(buy, id, 5, i+1))
		want = append(want, state{ID: id, Status: 1, Price: 5, Open: i + 1, Shown: i + 1})
	}
	d.want(cancelOf(1), cancelled(1, 4, 1))
	want[3] = state{ID: 1, Status: 3, Price: 5, Cancelled: 4}
	d.want(cancelOf(most), cancelled(most, 1, 1))
	want[0] = state{ID: most, Status: 3, Price: 5, Cancelled: 1}
	slices.SortFunc(want, func(a, b state) int { return a.ID - b.ID })
	d.wantOrders(want...)
}

// The list is the caller's, spare room too: what is done to it is not seen in the engine, nor in another list.
func TestOrdersAreTheCallers(t *testing.T) {
	d := smallDesk(t)
	d.rest(limitOrder(buy, 7, 5, 3), limitOrder(buy, 8, 5, 4))
	d.want(cancelOf(8), cancelled(8, 4, 1))
	want := []state{{ID: 7, Status: 1, Price: 5, Open: 3, Shown: 3}, {ID: 8, Status: 3, Price: 5, Cancelled: 4}}
	one := d.engine.Orders()
	d.rest(limitOrder(buy, 9, 5, 1))
	d.sweeps(limitOrder(sell, 10, 5, 1), traded(10, 7, 5, 1))
	if !slices.Equal(one, want) {
		t.Errorf("a list that was handed out changed: %+v", one)
	}
	two := d.engine.Orders()
	kept := slices.Clone(two)
	for i := range one {
		one[i] = state{ID: -1}
	}
	_ = append(one, state{ID: -1}, state{ID: -1})
	if !slices.Equal(two, kept) {
		t.Errorf("two lists share memory: %+v", two)
	}
	d.wantOrders(kept...)
}

func (d *desk) wantAverage(want float32) {
	d.t.Helper()
	if got := d.engine.Average(); got != want {
		d.t.Errorf("average %v; want %v", got, want)
	}
}

func TestAverage(t *testing.T) {
	d := smallDesk(t)
	d.rest(limitOrder(buy, 1, 5, 3), limitOrder(buy, 2, 4, 3))
	d.wantAverage(0)
	d.sweeps(limitOrder(sell, 3, 1, 4), traded(3, 1, 5, 3), traded(3, 2, 4, 1))
	d.wantAverage(float32(19) / 4)
	d.want(cancelOf(2), cancelled(2, 2, 1))
	d.wantAverage(float32(19) / 4)
	d.rest(limitOrder(sell, 4, 100, 3))
	d.sweeps(limitOrder(buy, 5, 100, 3), traded(5, 4, 100, 3))
	d.wantAverage(float32(319) / 7)
}

// Both sums are floats of 32 bits ahead of the division: an average of floats of 64 bits would be another.
func TestAverageIsDividedAsFloat32(t *testing.T) {
	d := newDesk(t, config{9, 1_000_000, 1_000})
	d.rest(limitOrder(buy, 1, 999_900, 904), limitOrder(buy, 2, 999_899, 7))
	d.sweeps(limitOrder(sell, 3, 1, 911), traded(3, 1, 999_900, 904), traded(3, 2, 999_899, 7))
	worth, qty := 999_900*904+999_899*7, 911
	if float32(float64(worth)/float64(qty)) == float32(worth)/float32(qty) {
		t.Fatal("the test's own numbers tell nothing")
	}
	d.wantAverage(float32(worth) / float32(qty))
}

// The sum itself is exact: many small trades behind a great one count.
func TestAverageSumIsExact(t *testing.T) {
	d := newDesk(t, config{9, 1_000_000, 1_000})
	d.rest(limitOrder(buy, 1, 1_000_000, 1_000))
	d.sweeps(limitOrder(sell, 2, 1_000_000, 1_000), traded(2, 1, 1_000_000, 1_000))
	for id := 3; id < 83; id += 2 {
		d.rest(limitOrder(buy, id, 1, 1))
		d.sweeps(limitOrder(sell, id+1, 1, 1), traded(id+1, id, 1, 1))
	}
	worth, qty := 1_000_000_040, 1_040
	if float32(worth)/float32(qty) == float32(1_000_000_000)/float32(qty) {
		t.Fatal("the test's own numbers tell nothing")
	}
	d.wantAverage(float32(worth) / float32(qty))
}
