package orderbook

import (
	"cmp"
	"slices"
)

// The sides of orders.
const (
	sideBuy = iota + 1
	sideSell
)

// The types of orders.
const (
	typeLimit = iota + 1
	typeIceberg
	typePeg
)

// The lives of orders.
const (
	lifeDay = iota + 1
	lifeLasting
	lifeUntil
)

// The statuses of orders.
const (
	statusLive = iota + 1
	statusFilled
	statusGone
)

// order is an order that lives. Of its terms, Price is the price that it has now, Qty its original quantity.
type order struct {
	Terms
	came   int // among all that were accepted: the less, the earlier
	filled int
	shown  int // 0 as long as it does not rest
	place  int // among those that rest: the less, the older
}

func (o *order) open() int { return o.Qty - o.filled }

// rests: a peg rests wherever it has a price; others have theirs before they rest, and show something once they do.
func (o *order) rests() bool {
	if o.Type == typePeg {
		return o.Price != nowhere
	}
	return o.shown > 0
}

// shownAtRest tells what an order shows that comes to rest.
func (o *order) shownAtRest() int {
	if o.Type == typeIceberg {
		return min(o.open(), o.Peak)
	}
	return o.open()
}

// keepsPlace tells whether a replace lets an order keep its place.
func (o *order) keepsPlace(t Terms) bool {
	return (o.Type == typePeg || t.Price == o.Price) && t.Qty <= o.Qty
}

// showWhatIsLeft lets an order that keeps its place show what it has open; an iceberg does not show what it hid.
func (o *order) showWhatIsLeft() {
	switch {
	case o.Type == typeIceberg:
		o.shown = min(o.shown, o.open())
	case o.rests():
		o.shown = o.open()
	}
}

func (o *order) state(status int) State {
	s := State{ID: o.ID, Status: status, Price: o.Price, Filled: o.filled}
	switch status {
	case statusLive:
		s.Open, s.Shown = o.open(), o.shown
	case statusGone:
		s.Cancelled = o.open()
	}
	return s
}

// statesByID tells how orders stand, those that live and those that have ended.
func statesByID(live []*order, ended map[int]State) []State {
	list := make([]State, 0, len(live)+len(ended))
	for _, o := range live {
		list = append(list, o.state(statusLive))
	}
	for _, s := range ended {
		list = append(list, s)
	}
	slices.SortFunc(list, func(a, b State) int { return cmp.Compare(a.ID, b.ID) })
	return list
}
