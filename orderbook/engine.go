package orderbook

import (
	"errors"
	"strings"
)

// noDraw stands in where nothing was handed in that draws: all its numbers are 0.
type noDraw struct{}

func (noDraw) Next() int { return 0 }

func newEngine(c Config, draw Draw) (*Engine, error) {
	if !configMayBe(c) {
		return nil, ErrConfig
	}
	if draw == nil {
		draw = noDraw{}
	}
	return &Engine{
		config: c,
		draw:   draw,
		live:   newRoster(),
		ended:  map[int]State{},
		buy:    &buyers{newHalf()},
		sell:   &sellers{newHalf()},
	}, nil
}

// takeBytes carries out the frames that are whole. Of what is left a copy is kept, since a piece of the text would keep all of it.
func (e *Engine) takeBytes(text string) {
	text = e.waiting + text
	for {
		c, size, err := decodeFrame(text)
		if errors.Is(err, ErrShort) {
			break
		}
		if err != nil {
			// What is no frame still tells by its first byte how many bytes go with it: none behind a 0.
			size = 1 + int(text[0])
			e.reject(0, rejectNoCommand)
		} else {
			e.carryOut(c)
		}
		e.layPegs()
		text = text[size:]
	}
	e.waiting = strings.Clone(text)
}

func (e *Engine) carryOut(c Command) {
	table := [...]func(Terms){
		commandNew:     e.enter,
		commandCancel:  e.cancel,
		commandReplace: e.replace,
		commandTick:    e.tick,
		commandClose:   e.closeDay,
	}
	table[c.Kind](c.Terms)
}

func (e *Engine) reject(id, reason int) {
	e.told.tell(Record{Kind: recordRejected, ID: id, Reason: reason})
}

func (e *Engine) enter(t Terms) {
	if reason := e.refusal(t); reason != 0 {
		e.reject(t.ID, reason)
		return
	}
	o := &order{Terms: t, came: e.live.count() + len(e.ended)}
	e.live.add(o)
	e.told.tell(Record{Kind: recordAccepted, ID: o.ID, Other: o.Side, Price: o.Price, Qty: o.Qty, Reason: o.Type})
	if o.Type != typePeg {
		e.sweep(o)
	}
}

// sidesOf tells an order's own side, and the other.
func (e *Engine) sidesOf(o *order) (side, side) {
	if o.Side == sideBuy {
		return e.buy, e.sell
	}
	return e.sell, e.buy
}

func (e *Engine) sweep(o *order) {
	_, across := e.sidesOf(o)
	for o.open() > 0 {
		first := across.firstFor(o.Price)
		if first == nil {
			e.show(o, o.shownAtRest())
			return
		}
		e.trade(o, first)
	}
	e.fill(o)
}

// trade lets an order that sweeps trade with one that rests.
func (e *Engine) trade(o, resting *order) {
	qty := min(o.open(), resting.shown)
	e.told.tell(Record{Kind: recordTraded, ID: o.ID, Other: resting.ID, Price: resting.Price, Qty: qty})
	e.worth += resting.Price * qty
	e.traded += qty
	o.filled += qty
	resting.filled += qty
	resting.shown -= qty
	switch {
	case resting.open() == 0:
		e.fill(resting)
	case resting.shown == 0:
		e.show(resting, e.drawShown(resting))
	}
}

// drawShown tells what an iceberg shows next. The modulo 2^32 is uint32's own, below 0 too.
func (e *Engine) drawShown(o *order) int {
	drawn := uint32(e.draw.Next()) % uint32(o.Peak)
	return min(1+int(drawn), o.open())
}

// show lets an order rest, and tells what it shows.
func (e *Engine) show(o *order, qty int) {
	e.rest(o, qty)
	e.told.tell(Record{Kind: recordShown, ID: o.ID, Price: o.Price, Qty: qty})
}

// rest lays an order into the book at the newest place, be it there already or not.
func (e *Engine) rest(o *order, qty int) {
	e.places++
	o.place = e.places
	o.shown = qty
	own, _ := e.sidesOf(o)
	own.add(o)
}

func (e *Engine) takeFromBook(o *order) {
	own, _ := e.sidesOf(o)
	own.remove(o)
	o.shown = 0
}

func (e *Engine) fill(o *order) {
	e.live.remove(o)
	e.layAside(o, statusFilled)
}

// layAside puts away an order that lives no more: nothing but how it stands is ever asked of it.
func (e *Engine) layAside(o *order, status int) {
	e.takeFromBook(o)
	e.ended[o.ID] = o.state(status)
}

func (e *Engine) average() float32 {
	if e.traded == 0 {
		return 0
	}
	return float32(e.worth) / float32(e.traded)
}
