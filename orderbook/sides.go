package orderbook

// side is a side of the book: the engine asks either of the two in the same words.
type side interface {
	add(o *order)
	remove(o *order)
	// firstFor tells with which order one of the other side trades first whose price is the limit: nil, if with none.
	firstFor(limit int) *order
	// bestToFollow tells the best price at which an order rests that follows no other, and whether there is one.
	bestToFollow() (int, bool)
}

// half is what the two sides have in common: the orders that rest, by their ids.
type half struct {
	resting map[int]*order
}

func newHalf() half { return half{resting: map[int]*order{}} }

func (h *half) add(o *order)    { h.resting[o.ID] = o }
func (h *half) remove(o *order) { delete(h.resting, o.ID) }

// foremost tells the order of the best price that the limit is not better than, and of those the one with the oldest place. No two have the same place, so that the map's own order is not seen.
func (h *half) foremost(limit int, better func(price, than int) bool) *order {
	var first *order
	for _, o := range h.resting {
		if better(limit, o.Price) {
			continue
		}
		if first == nil || better(o.Price, first.Price) || o.Price == first.Price && o.place < first.place {
			first = o
		}
	}
	return first
}

func (h *half) bestOfOwnPrice(better func(price, than int) bool) (int, bool) {
	best, found := 0, false
	for _, o := range h.resting {
		if o.Type != typePeg && (!found || better(o.Price, best)) {
			best, found = o.Price, true
		}
	}
	return best, found
}

type buyers struct{ half }

func (b *buyers) firstFor(limit int) *order { return b.foremost(limit, higher) }
func (b *buyers) bestToFollow() (int, bool) { return b.bestOfOwnPrice(higher) }

type sellers struct{ half }

func (s *sellers) firstFor(limit int) *order { return s.foremost(limit, lower) }
func (s *sellers) bestToFollow() (int, bool) { return s.bestOfOwnPrice(lower) }

func higher(price, than int) bool { return price > than }
func lower(price, than int) bool  { return price < than }
