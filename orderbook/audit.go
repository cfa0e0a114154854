package orderbook

import (
	"errors"
	"maps"
	"slices"
)

// audit is how all orders stand by the records so far. It has no book: of an order it knows what was told of it, and no more.
type audit struct {
	live  map[int]*order
	ended map[int]State
}

func auditRecords(text string) ([]State, error) {
	a := &audit{live: map[int]*order{}, ended: map[int]State{}}
	list, err := recordsAhead(text)
	for i, r := range list {
		if reason := a.take(i+1, r); reason != nil {
			return nil, &Fault{At: i + 1, Err: reason}
		}
	}
	var f *Fault
	if errors.As(err, &f) {
		// The reading tells how many records are ahead; the audit tells the number that the next should have had.
		return nil, &Fault{At: f.At + 1, Err: f.Err}
	}
	return statesByID(slices.Collect(maps.Values(a.live)), a.ended), nil
}

func (a *audit) take(seq int, r Record) error {
	if r.Seq != seq {
		return ErrGap
	}
	// From here on a record is held against the one that was due, which has no number.
	r.Seq = 0
	if !a.follow(r) {
		return ErrBroken
	}
	return nil
}

// follow lets the orders become what a record tells, and tells whether that can be.
func (a *audit) follow(r Record) bool {
	switch r.Kind {
	case recordAccepted:
		return a.followAccepted(r)
	case recordRejected:
		return rejectionCanBe(r)
	}
	o, lives := a.live[r.ID]
	if !lives {
		return false
	}
	switch r.Kind {
	case recordTraded:
		return a.followTraded(o, r)
	case recordCancelled:
		return a.followCancelled(o, r)
	case recordReplaced:
		return followReplaced(o, r)
	case recordShown:
		return followShown(o, r)
	case recordMoved:
		return followMoved(o, r)
	case recordParked:
		return followParked(o, r)
	}
	return false
}

func (a *audit) followAccepted(r Record) bool {
	if !a.idIsNew(r.ID) || !within(r.Other, sideBuy, sideSell) || !within(r.Reason, typeLimit, typePeg) {
		return false
	}
	if r.Qty == 0 || !priceCanBe(r.Reason, r.Price) {
		return false
	}
	a.live[r.ID] = &order{Terms: Terms{ID: r.ID, Side: r.Other, Type: r.Reason, Price: r.Price, Qty: r.Qty}}
	return true
}

func (a *audit) idIsNew(id int) bool {
	_, lives := a.live[id]
	_, ended := a.ended[id]
	return id != 0 && !lives && !ended
}

// priceCanBe: a peg is never asked for at a price of its own, all others always are.
func priceCanBe(kind, price int) bool { return (kind == typePeg) == (price == 0) }

func rejectionCanBe(r Record) bool {
	due := Record{Kind: recordRejected, ID: r.ID, Reason: r.Reason}
	return r == due && within(r.Reason, rejectNoCommand, rejectBackInTime)
}

func (a *audit) followTraded(o *order, r Record) bool {
	resting, lives := a.live[r.Other]
	if !lives || resting == o || o.Type == typePeg || o.shown > 0 {
		return false
	}
	due := Record{Kind: recordTraded, ID: o.ID, Other: resting.ID, Price: resting.Price, Qty: r.Qty}
	if r != due || !within(r.Qty, 1, min(o.open(), resting.shown)) {
		return false
	}
	resting.shown -= r.Qty
	a.fill(o, r.Qty)
	a.fill(resting, r.Qty)
	return true
}

func (a *audit) fill(o *order, qty int) {
	o.filled += qty
	if o.open() == 0 {
		a.end(o, statusFilled)
	}
}

func (a *audit) end(o *order, status int) {
	delete(a.live, o.ID)
	a.ended[o.ID] = o.state(status)
}

func (a *audit) followCancelled(o *order, r Record) bool {
	due := Record{Kind: recordCancelled, ID: o.ID, Qty: o.open(), Reason: r.Reason}
	if r != due || !within(r.Reason, goneByCancel, goneByClose) {
		return false
	}
	a.end(o, statusGone)
	return true
}

func followReplaced(o *order, r Record) bool {
	keeps := o.keepsPlace(Terms{Price: r.Price, Qty: r.Qty})
	due := Record{Kind: recordReplaced, ID: o.ID, Price: r.Price, Qty: r.Qty, Reason: placeLost}
	if keeps {
		due.Reason = placeKept
	}
	if r != due || r.Qty <= o.filled || !priceCanBe(o.Type, r.Price) {
		return false
	}
	o.Qty = r.Qty
	switch {
	case keeps:
		o.showWhatIsLeft()
	case o.Type != typePeg:
		o.Price, o.shown = r.Price, 0
	}
	return true
}

func followShown(o *order, r Record) bool {
	least := o.open()
	if o.Type == typeIceberg {
		least = 1
	}
	due := Record{Kind: recordShown, ID: o.ID, Price: o.Price, Qty: r.Qty}
	if r != due || r.Price == nowhere || !within(r.Qty, least, o.open()) {
		return false
	}
	o.shown = r.Qty
	return true
}

func followMoved(o *order, r Record) bool {
	due := Record{Kind: recordMoved, ID: o.ID, Price: r.Price, Qty: o.open()}
	if r != due || o.Type != typePeg || r.Price == nowhere || r.Price == o.Price {
		return false
	}
	o.Price, o.shown = r.Price, r.Qty
	return true
}

func followParked(o *order, r Record) bool {
	due := Record{Kind: recordParked, ID: o.ID}
	if r != due || o.Type != typePeg || o.Price == nowhere {
		return false
	}
	o.Price, o.shown = nowhere, 0
	return true
}
