package orderbook

// Why a command is rejected.
const (
	rejectNoCommand = iota + 1
	rejectAcceptedID
	rejectNoOrder
	rejectWord
	rejectPrice
	rejectQty
	rejectOffset
	rejectTime
	rejectFull
	rejectBackInTime
)

const (
	mostOrders = 64
	mostPrice  = 1_000_000
	mostQty    = 1_000
)

func within(number, least, most int) bool { return least <= number && number <= most }

func configMayBe(c Config) bool {
	return within(c.Orders, 1, mostOrders) && within(c.MaxPrice, 1, mostPrice) && within(c.MaxQty, 1, mostQty)
}

// refusal tells why a new order is rejected: 0, if it is not.
func (e *Engine) refusal(t Terms) int {
	switch {
	case !wordsMayBe(t):
		return rejectWord
	case e.wasAccepted(t.ID):
		return rejectAcceptedID
	case !e.priceMayBe(t.Type, t.Price):
		return rejectPrice
	case !e.quantityMayBe(t):
		return rejectQty
	case !e.offsetMayBe(t):
		return rejectOffset
	case !e.timeMayBe(t):
		return rejectTime
	case e.live.count() >= e.config.Orders:
		return rejectFull
	}
	return 0
}

func wordsMayBe(t Terms) bool {
	return t.ID != 0 && within(t.Side, sideBuy, sideSell) && within(t.Type, typeLimit, typePeg) && within(t.Life, lifeDay, lifeUntil)
}

func (e *Engine) wasAccepted(id int) bool {
	_, lives := e.live.find(id)
	_, ended := e.ended[id]
	return lives || ended
}

func (e *Engine) priceMayBe(kind, price int) bool {
	if kind == typePeg {
		return price == 0
	}
	return within(price, 1, e.config.MaxPrice)
}

// changeRefusal tells why a live order is not replaced: 0, if it is.
func (e *Engine) changeRefusal(o *order, t Terms) int {
	switch {
	case !e.priceMayBe(o.Type, t.Price):
		return rejectPrice
	case !within(t.Qty, o.filled+1, e.config.MaxQty):
		return rejectQty
	}
	return 0
}

func (e *Engine) quantityMayBe(t Terms) bool {
	if !within(t.Qty, 1, e.config.MaxQty) {
		return false
	}
	if t.Type == typeIceberg {
		return within(t.Peak, 1, t.Qty)
	}
	return t.Peak == 0
}

// offsetMayBe: a peg may keep behind the best price of its side, and not go ahead of it.
func (e *Engine) offsetMayBe(t Terms) bool {
	switch {
	case t.Type != typePeg:
		return t.Offset == 0
	case t.Side == sideBuy:
		return within(t.Offset, -e.config.MaxPrice, 0)
	}
	return within(t.Offset, 0, e.config.MaxPrice)
}

func (e *Engine) timeMayBe(t Terms) bool {
	if t.Life == lifeUntil {
		return t.Time > e.time
	}
	return t.Time == 0
}
