package orderbook

import (
	"cmp"
	"slices"
)

// roster holds the orders that live, by their ids. Those of the day are apart from the others, since close takes all of them at once.
type roster struct {
	day, others map[int]*order
}

func newRoster() roster { return roster{day: map[int]*order{}, others: map[int]*order{}} }

func (r *roster) holding(o *order) map[int]*order {
	if o.Life == lifeDay {
		return r.day
	}
	return r.others
}

func (r *roster) add(o *order)    { r.holding(o)[o.ID] = o }
func (r *roster) remove(o *order) { delete(r.holding(o), o.ID) }

func (r *roster) find(id int) (*order, bool) {
	if o, lives := r.day[id]; lives {
		return o, true
	}
	o, lives := r.others[id]
	return o, lives
}

func (r *roster) count() int { return len(r.day) + len(r.others) }

func (r *roster) all() []*order { return inOrderOfComing(r.day, r.others) }

// takeDay takes all orders of the day out.
func (r *roster) takeDay() []*order {
	list := inOrderOfComing(r.day)
	clear(r.day)
	return list
}

// takeDue takes those out that were to live until a time that is not above this one.
func (r *roster) takeDue(time int) []*order {
	var due []*order
	for _, o := range inOrderOfComing(r.others) {
		if o.Life == lifeUntil && o.Time <= time {
			r.remove(o)
			due = append(due, o)
		}
	}
	return due
}

func inOrderOfComing(parts ...map[int]*order) []*order {
	var list []*order
	for _, part := range parts {
		for _, o := range part {
			list = append(list, o)
		}
	}
	slices.SortFunc(list, func(a, b *order) int { return cmp.Compare(a.came, b.came) })
	return list
}
