package orderbook

// Why what was open is cancelled.
const (
	goneByCancel = iota + 1
	goneByTime
	goneByClose
)

// What becomes of the place of an order that is replaced.
const (
	placeLost = iota
	placeKept
)

func (e *Engine) cancel(t Terms) {
	o, lives := e.live.find(t.ID)
	if !lives {
		e.reject(t.ID, rejectNoOrder)
		return
	}
	e.live.remove(o)
	e.callOff(goneByCancel, o)
}

func (e *Engine) tick(t Terms) {
	if t.Time < e.time {
		e.reject(0, rejectBackInTime)
		return
	}
	e.time = t.Time
	e.callOff(goneByTime, e.live.takeDue(e.time)...)
}

func (e *Engine) closeDay(Terms) { e.callOff(goneByClose, e.live.takeDay()...) }

// callOff cancels what is open of orders that were taken out of those that live.
func (e *Engine) callOff(reason int, list ...*order) {
	for _, o := range list {
		e.told.tell(Record{Kind: recordCancelled, ID: o.ID, Qty: o.open(), Reason: reason})
		e.layAside(o, statusGone)
	}
}

func (e *Engine) replace(t Terms) {
	o, lives := e.live.find(t.ID)
	if !lives {
		e.reject(t.ID, rejectNoOrder)
		return
	}
	if reason := e.changeRefusal(o, t); reason != 0 {
		e.reject(t.ID, reason)
		return
	}
	keeps := o.keepsPlace(t)
	o.Qty = t.Qty
	if keeps {
		e.tellReplaced(t, placeKept)
		o.showWhatIsLeft()
		return
	}
	e.tellReplaced(t, placeLost)
	e.placeAnew(o, t.Price)
}

func (e *Engine) tellReplaced(t Terms, reason int) {
	e.told.tell(Record{Kind: recordReplaced, ID: t.ID, Price: t.Price, Qty: t.Qty, Reason: reason})
}

// placeAnew lets an order lose its place. A peg's price is not its own to choose: it stays where it is.
func (e *Engine) placeAnew(o *order, price int) {
	switch {
	case o.Type != typePeg:
		e.takeFromBook(o)
		o.Price = price
		e.sweep(o)
	case o.rests():
		e.show(o, o.shownAtRest())
	}
}
