package orderbook

// The sides of orders.
const (
	sideBuy = iota + 1
	sideSell
)

// The types of orders.
const (
	typeLimit = iota + 1
	typeIceberg
	typePeg
)

// The lives of orders.
const (
	lifeDay = iota + 1
	lifeLasting
	lifeUntil
)

// The statuses of orders.
const (
	statusLive = iota + 1
	statusFilled
	statusGone
)

// order is an order that lives. Of its terms, Price is the price that it has now, Qty its original quantity.
type order struct {
	Terms
	filled int
	shown  int // 0 as long as it does not rest
	place  int // among those that rest: the less, the older
}

func (o *order) open() int { return o.Qty - o.filled }

// shownAtRest tells what an order shows that comes to rest.
func (o *order) shownAtRest() int {
	if o.Type == typeIceberg {
		return min(o.open(), o.Peak)
	}
	return o.open()
}

func (o *order) state(status int) State {
	s := State{ID: o.ID, Status: status, Price: o.Price, Filled: o.filled}
	switch status {
	case statusLive:
		s.Open, s.Shown = o.open(), o.shown
	case statusGone:
		s.Cancelled = o.open()
	}
	return s
}
