package orderbook_test

import (
	"encoding/binary"
	"slices"
	"testing"

	"orderbook/orderbook"
)

// textOf writes records as bytes, and numbers them from 1 on.
func textOf(list ...record) string {
	var text []byte
	for i, r := range list {
		text = append(text, byte(r.Kind))
		for _, number := range []int{i + 1, r.ID, r.Other, r.Price, r.Qty} {
			text = binary.BigEndian.AppendUint32(text, uint32(number))
		}
		text = append(text, byte(r.Reason))
	}
	return string(text)
}

func wantAudit(t *testing.T, text string, want ...state) {
	t.Helper()
	got, err := orderbook.Audit(text)
	if !slices.Equal(got, want) || err != nil {
		t.Errorf("Audit(%x):\ngot  %+v, %v\nwant %+v", text, got, err, want)
	}
}

func wantNoAudit(t *testing.T, text string, reason error, at int) {
	t.Helper()
	got, err := orderbook.Audit(text)
	if got != nil || !isJust(err, reason, at) {
		t.Errorf("Audit(%x):\ngot  %+v, %v\nwant %v, at %d", text, got, err, reason, at)
	}
}

// story is what was told so far.
type story struct {
	t    *testing.T
	list []record
}

func tell(t *testing.T, list ...record) *story {
	t.Helper()
	s := &story{t: t}
	s.goesOn(list...)
	return s
}

// goesOn adds records that can be.
func (s *story) goesOn(list ...record) {
	s.t.Helper()
	for _, r := range list {
		if !s.canBe(r) {
			s.t.Fatalf("%+v cannot be behind %+v", r, s.list)
		}
		s.list = append(s.list, r)
	}
}

func (s *story) canBe(r record) bool {
	s.t.Helper()
	_, err := orderbook.Audit(textOf(append(slices.Clone(s.list), r)...))
	if err != nil && !isJust(err, orderbook.ErrBroken, len(s.list)+1) {
		s.t.Errorf("%+v, behind %+v: %v", r, s.list, err)
	}
	return err == nil
}

func (s *story) breaks(list ...record) {
	s.t.Helper()
	for _, r := range list {
		if s.canBe(r) {
			s.t.Errorf("%+v can be behind %+v", r, s.list)
		}
	}
}

func (s *story) stands(want ...state) {
	s.t.Helper()
	wantAudit(s.t, textOf(s.list...), want...)
}

// The numbers of a record that are its own to tell.
const (
	ofID = iota
	ofOther
	ofPrice
	ofQty
	ofReason
)

func with(r record, field, number int) record {
	*[...]*int{&r.ID, &r.Other, &r.Price, &r.Qty, &r.Reason}[field] = number
	return r
}

func probes(field int) []int {
	greatest := most
	if field == ofReason {
		greatest = 255
	}
	return []int{0, 1, 2, 3, 4, 5, 6, 7, 8, 9, 10, 11, 12, greatest}
}

// only looks that a record can be with these numbers in a field, and with no other.
func (s *story) only(r record, field int, numbers ...int) {
	s.t.Helper()
	for _, number := range probes(field) {
		if s.canBe(with(r, field, number)) != slices.Contains(numbers, number) {
			s.t.Errorf("%+v with %d in field %d, behind %+v", r, number, field, s.list)
		}
	}
}

// allBut looks that a record can be with all numbers in a field but these.
func (s *story) allBut(r record, field int, numbers ...int) {
	s.t.Helper()
	s.only(r, field, slices.DeleteFunc(probes(field), func(n int) bool { return slices.Contains(numbers, n) })...)
}

func TestAuditOfNothing(t *testing.T) {
	wantAudit(t, "")
}

func TestAuditAccepted(t *testing.T) {
	s := tell(t, accepted(limitOrder(buy, 1, 10, 5)), accepted(pegOrder(sell, 2, 7, 0)), cancelled(2, 7, 1))
	s.stands(state{1, 1, 10, 5, 0, 0, 0}, state{2, 3, 0, 0, 0, 7, 0})
	order := accepted(limitOrder(sell, 3, 8, 4))
	s.allBut(order, ofID, 0, 1, 2)
	s.only(order, ofOther, 1, 2)
	s.allBut(order, ofPrice, 0)
	s.allBut(order, ofQty, 0)
	s.only(order, ofReason, 1, 2)
	follower := accepted(pegOrder(buy, 3, 4, 0))
	s.only(follower, ofOther, 1, 2)
	s.only(follower, ofPrice, 0)
	s.allBut(follower, ofQty, 0)
	s.only(follower, ofReason, 3)
}

// An order that was filled, or is gone, was accepted all the same.
func TestAuditAcceptedOnce(t *testing.T) {
	s := tell(t, accepted(limitOrder(buy, 1, 10, 5)), shown(1, 10, 5), accepted(limitOrder(sell, 2, 10, 5)), traded(2, 1, 10, 5))
	s.stands(state{1, 2, 10, 0, 5, 0, 0}, state{2, 2, 10, 0, 5, 0, 0})
	s.allBut(accepted(limitOrder(buy, 3, 10, 5)), ofID, 0, 1, 2)
}

func TestAuditRejected(t *testing.T) {
	for _, s := range []*story{tell(t), tell(t, accepted(limitOrder(buy, 1, 10, 5)))} {
		r := rejected(1, 4)
		s.allBut(r, ofID)
		s.only(r, ofOther, 0)
		s.only(r, ofPrice, 0)
		s.only(r, ofQty, 0)
		s.only(r, ofReason, 1, 2, 3, 4, 5, 6, 7, 8, 9, 10)
	}
	s := tell(t, accepted(limitOrder(buy, 1, 10, 5)), rejected(1, 2), rejected(7, 3))
	s.stands(state{1, 1, 10, 5, 0, 0, 0})
}

// All but acceptance and rejection is told of an order that lives.
func TestAuditOfOrdersThatDoNotLive(t *testing.T) {
	s := tell(t,
		accepted(limitOrder(buy, 1, 10, 5)), shown(1, 10, 5),
		accepted(limitOrder(sell, 2, 10, 5)), traded(2, 1, 10, 5),
		accepted(pegOrder(buy, 3, 4, 0)), moved(3, 9, 4), cancelled(3, 4, 2),
		accepted(limitOrder(sell, 4, 11, 6)), shown(4, 11, 6), cancelled(4, 6, 3),
		accepted(limitOrder(sell, 5, 12, 6)), shown(5, 12, 6),
	)
	for _, id := range []int{0, 1, 2, 3, 4, 6, most} {
		s.breaks(
			traded(id, 5, 12, 1), traded(5, id, 12, 1), cancelled(id, 0, 1), cancelled(id, 4, 1),
			replaced(replaceOf(id, 10, 9), 0), replaced(replaceOf(id, 0, 9), 0), replaced(replaceOf(id, 10, 5), 1),
			shown(id, 10, 5), shown(id, 10, 0), moved(id, 8, 0), moved(id, 8, 4), parked(id),
		)
	}
	s.stands(
		state{1, 2, 10, 0, 5, 0, 0}, state{2, 2, 10, 0, 5, 0, 0}, state{3, 3, 9, 0, 0, 4, 0},
		state{4, 3, 11, 0, 0, 6, 0}, state{5, 1, 12, 6, 0, 0, 6},
	)
}

func TestAuditTraded(t *testing.T) {
	s := tell(t,
		accepted(limitOrder(sell, 1, 10, 6)), shown(1, 10, 6),
		accepted(limitOrder(sell, 2, 11, 3)), shown(2, 11, 3),
		accepted(pegOrder(sell, 3, 9, 0)), moved(3, 10, 9),
		accepted(pegOrder(sell, 4, 9, 0)),
		accepted(limitOrder(sell, 5, 10, 9)),
		accepted(limitOrder(buy, 6, 12, 8)),
	)
	r := traded(6, 1, 10, 2)
	s.only(r, ofID, 5, 6)    // all others show something, or are pegs
	s.only(r, ofOther, 1, 3) // 2 has another price, 4 and 5 show nothing
	s.only(r, ofPrice, 10)   // not its own
	s.only(r, ofQty, 1, 2, 3, 4, 5, 6)
	s.only(r, ofReason, 0)
	s.only(traded(6, 2, 11, 2), ofQty, 1, 2, 3)
	s.only(traded(6, 3, 10, 2), ofQty, 1, 2, 3, 4, 5, 6, 7, 8)
	s.breaks(traded(6, 6, 12, 1), traded(6, 4, 0, 1), traded(6, 5, 10, 1), traded(5, 6, 12, 1), traded(3, 1, 10, 1), traded(4, 1, 10, 1))
	s.goesOn(traded(6, 1, 10, 2))
	s.stands(
		state{1, 1, 10, 4, 2, 0, 4}, state{2, 1, 11, 3, 0, 0, 3}, state{3, 1, 10, 9, 0, 0, 9},
		state{4, 1, 0, 9, 0, 0, 0}, state{5, 1, 10, 9, 0, 0, 0}, state{6, 1, 12, 6, 2, 0, 0},
	)
	s.only(traded(6, 1, 10, 1), ofQty, 1, 2, 3, 4)
	s.goesOn(traded(6, 1, 10, 4), traded(6, 3, 10, 2))
	s.stands(
		state{1, 2, 10, 0, 6, 0, 0}, state{2, 1, 11, 3, 0, 0, 3}, state{3, 1, 10, 7, 2, 0, 7},
		state{4, 1, 0, 9, 0, 0, 0}, state{5, 1, 10, 9, 0, 0, 0}, state{6, 2, 12, 0, 8, 0, 0},
	)
}

// An iceberg that has shown all is still open: it shows again, and lives on.
func TestAuditTradedIceberg(t *testing.T) {
	s := tell(t,
		accepted(icebergOrder(sell, 1, 10, 9, 4)), shown(1, 10, 4),
		accepted(limitOrder(buy, 2, 10, 6)),
	)
	s.only(traded(2, 1, 10, 1), ofQty, 1, 2, 3, 4)
	s.goesOn(traded(2, 1, 10, 4))
	s.stands(state{1, 1, 10, 5, 4, 0, 0}, state{2, 1, 10, 2, 4, 0, 0})
	s.only(traded(2, 1, 10, 1), ofQty)
	s.only(shown(1, 10, 4), ofQty, 1, 2, 3, 4, 5)
	s.goesOn(shown(1, 10, 4), traded(2, 1, 10, 2))
	s.stands(state{1, 1, 10, 3, 6, 0, 2}, state{2, 2, 10, 0, 6, 0, 0})
}

func TestAuditCancelled(t *testing.T) {
	s := tell(t,
		accepted(limitOrder(sell, 1, 10, 6)), shown(1, 10, 6),
		accepted(limitOrder(buy, 2, 10, 2)), traded(2, 1, 10, 2),
		accepted(pegOrder(sell, 3, 5, 0)), moved(3, 10, 5),
	)
	r := cancelled(1, 4, 1)
	s.only(r, ofID, 1)
	s.only(r, ofOther, 0)
	s.only(r, ofPrice, 0)
	s.only(r, ofQty, 4)
	s.only(r, ofReason, 1, 2, 3)
	s.only(cancelled(3, 5, 1), ofPrice, 0)
	s.goesOn(cancelled(1, 4, 2), cancelled(3, 5, 3))
	s.stands(state{1, 3, 10, 0, 2, 4, 0}, state{2, 2, 10, 0, 2, 0, 0}, state{3, 3, 10, 0, 0, 5, 0})
}

func TestAuditShown(t *testing.T) {
	s := tell(t,
		accepted(limitOrder(sell, 1, 10, 6)), accepted(icebergOrder(sell, 2, 11, 5, 2)),
		accepted(pegOrder(sell, 3, 7, 0)), accepted(pegOrder(sell, 4, 7, 0)), moved(4, 9, 7),
	)
	for _, r := range []record{shown(1, 10, 6), shown(2, 11, 3), shown(4, 9, 7)} {
		s.only(r, ofID, r.ID)
		s.only(r, ofOther, 0)
		s.only(r, ofPrice, r.Price)
		s.only(r, ofReason, 0)
	}
	s.only(shown(1, 10, 6), ofQty, 6)
	s.only(shown(2, 11, 3), ofQty, 1, 2, 3, 4, 5)
	s.only(shown(4, 9, 7), ofQty, 7)
	s.only(shown(3, 0, 7), ofPrice) // a peg that is nowhere shows nothing
	s.goesOn(shown(1, 10, 6), shown(2, 11, 3), shown(4, 9, 7))
	s.stands(state{1, 1, 10, 6, 0, 0, 6}, state{2, 1, 11, 5, 0, 0, 3}, state{3, 1, 0, 7, 0, 0, 0}, state{4, 1, 9, 7, 0, 0, 7})
	s.goesOn(shown(2, 11, 5))
	s.stands(state{1, 1, 10, 6, 0, 0, 6}, state{2, 1, 11, 5, 0, 0, 5}, state{3, 1, 0, 7, 0, 0, 0}, state{4, 1, 9, 7, 0, 0, 7})
}

func TestAuditMoved(t *testing.T) {
	s := tell(t,
		accepted(limitOrder(sell, 1, 10, 7)), shown(1, 10, 7), accepted(icebergOrder(sell, 2, 10, 7, 2)), shown(2, 10, 2),
		accepted(pegOrder(sell, 3, 7, 0)), accepted(pegOrder(sell, 4, 7, 0)), moved(4, 9, 7),
		accepted(limitOrder(buy, 5, 12, 3)), traded(5, 4, 9, 3),
	)
	r := moved(3, 8, 7)
	s.only(r, ofID, 3) // of 4 another quantity is open
	s.only(r, ofOther, 0)
	s.allBut(r, ofPrice, 0)
	s.only(r, ofQty, 7)
	s.only(r, ofReason, 0)
	s.only(moved(4, 8, 4), ofQty, 4)
	s.allBut(moved(4, 8, 4), ofPrice, 0, 9)
	s.breaks(moved(1, 8, 7), moved(2, 8, 7))
	s.goesOn(moved(3, 8, 7), moved(4, 7, 4), moved(4, most, 4))
	s.stands(
		state{1, 1, 10, 7, 0, 0, 7}, state{2, 1, 10, 7, 0, 0, 2}, state{3, 1, 8, 7, 0, 0, 7},
		state{4, 1, most, 4, 3, 0, 4}, state{5, 2, 12, 0, 3, 0, 0},
	)
}

func TestAuditParked(t *testing.T) {
	s := tell(t,
		accepted(limitOrder(sell, 1, 10, 7)), shown(1, 10, 7), accepted(icebergOrder(sell, 2, 10, 7, 2)), shown(2, 10, 2),
		accepted(pegOrder(sell, 3, 7, 0)), accepted(pegOrder(sell, 4, 5, 0)), moved(4, 9, 5),
	)
	r := parked(4)
	for field := ofOther; field <= ofReason; field++ {
		s.only(r, field, 0)
	}
	s.only(r, ofID, 4)
	s.goesOn(r)
	s.only(r, ofID)
	s.stands(state{1, 1, 10, 7, 0, 0, 7}, state{2, 1, 10, 7, 0, 0, 2}, state{3, 1, 0, 7, 0, 0, 0}, state{4, 1, 0, 5, 0, 0, 0})
	s.goesOn(moved(4, 9, 5), parked(4), cancelled(4, 5, 1))
	s.stands(state{1, 1, 10, 7, 0, 0, 7}, state{2, 1, 10, 7, 0, 0, 2}, state{3, 1, 0, 7, 0, 0, 0}, state{4, 3, 0, 0, 0, 5, 0})
}
