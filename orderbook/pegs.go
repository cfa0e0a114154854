package orderbook

// nowhere is the price of a peg that does not rest.
const nowhere = 0

// layPegs lays every peg where it should be. Where that is hangs on no other peg, so that going through them once is enough.
func (e *Engine) layPegs() {
	for _, o := range e.live.all() {
		if o.Type == typePeg {
			e.layPeg(o)
		}
	}
}

func (e *Engine) layPeg(o *order) {
	price := e.pegPrice(o)
	switch {
	case price == o.Price:
		return
	case price == nowhere:
		e.park(o)
	default:
		e.move(o, price)
	}
}

func (e *Engine) pegPrice(o *order) int {
	own, _ := e.sidesOf(o)
	best, found := own.bestToFollow()
	if !found {
		return nowhere
	}
	return min(max(best+o.Offset, 1), e.config.MaxPrice)
}

func (e *Engine) park(o *order) {
	e.takeFromBook(o)
	o.Price = nowhere
	e.told.tell(Record{Kind: recordParked, ID: o.ID})
}

func (e *Engine) move(o *order, price int) {
	o.Price = price
	e.rest(o, o.open())
	e.told.tell(Record{Kind: recordMoved, ID: o.ID, Price: o.Price, Qty: o.shown})
}
