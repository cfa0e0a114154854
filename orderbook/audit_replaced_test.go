package orderbook_test

import "testing"

// kept and lost are what is told of a replace by which an order keeps its place, or loses it.
func kept(id, price, qty int) record { return replaced(replaceOf(id, price, qty), 1) }
func lost(id, price, qty int) record { return replaced(replaceOf(id, price, qty), 0) }

// partlyFilled tells of a seller 1 at 10 that shows 4, and has 2 of 6 filled.
func partlyFilled(t *testing.T) *story {
	t.Helper()
	return tell(t,
		accepted(limitOrder(sell, 1, 10, 6)), shown(1, 10, 6),
		accepted(limitOrder(buy, 2, 10, 2)), traded(2, 1, 10, 2),
	)
}

func TestAuditReplaced(t *testing.T) {
	s := partlyFilled(t)
	s.only(kept(1, 10, 5), ofID, 1)
	s.only(kept(1, 10, 5), ofOther, 0)
	s.only(kept(1, 10, 5), ofPrice, 10)
	s.only(kept(1, 10, 5), ofQty, 3, 4, 5, 6)
	s.only(kept(1, 10, 5), ofReason, 1)
	s.only(lost(1, 10, 7), ofOther, 0)
	s.allBut(lost(1, 10, 7), ofQty, 0, 1, 2, 3, 4, 5, 6)
	s.only(lost(1, 10, 7), ofReason, 0)
	s.allBut(lost(1, 11, 5), ofPrice, 0, 10)
	s.allBut(lost(1, 11, 5), ofQty, 0, 1, 2)
	s.only(lost(1, 11, 5), ofReason, 0)
}

func TestAuditReplacedLimitOrder(t *testing.T) {
	other := state{2, 2, 10, 0, 2, 0, 0}
	s := partlyFilled(t)
	s.goesOn(kept(1, 10, 5))
	s.stands(state{1, 1, 10, 3, 2, 0, 3}, other)
	s.only(kept(1, 10, 5), ofQty, 3, 4, 5) // what it was before is not what it was first
	s.goesOn(lost(1, 12, 8))
	s.stands(state{1, 1, 12, 6, 2, 0, 0}, other)
	s.only(shown(1, 12, 6), ofPrice, 12)
	s.only(kept(1, 12, 8), ofPrice, 12)
	s.goesOn(kept(1, 12, 7))
	s.stands(state{1, 1, 12, 5, 2, 0, 0}, other) // it does not rest, and shows nothing
	s.goesOn(shown(1, 12, 5), cancelled(1, 5, 1))
	s.stands(state{1, 3, 12, 0, 2, 5, 0}, other)
}

// One that sweeps anew may trade again, and only then.
func TestAuditReplacedSweeps(t *testing.T) {
	s := partlyFilled(t)
	s.goesOn(accepted(limitOrder(buy, 3, 9, 9)), shown(3, 9, 9))
	s.breaks(traded(1, 3, 9, 1))
	s.goesOn(kept(1, 10, 5))
	s.breaks(traded(1, 3, 9, 1))
	s.goesOn(lost(1, 9, 5))
	s.only(traded(1, 3, 9, 1), ofQty, 1, 2, 3)
	s.goesOn(traded(1, 3, 9, 3))
	s.stands(state{1, 2, 9, 0, 5, 0, 0}, state{2, 2, 10, 0, 2, 0, 0}, state{3, 1, 9, 6, 3, 0, 6})
}

func TestAuditReplacedIceberg(t *testing.T) {
	s := tell(t, accepted(icebergOrder(sell, 1, 10, 12, 4)), shown(1, 10, 4))
	s.goesOn(kept(1, 10, 9))
	s.stands(state{1, 1, 10, 9, 0, 0, 4}) // no more than it did
	s.goesOn(kept(1, 10, 3))
	s.stands(state{1, 1, 10, 3, 0, 0, 3})
	s.goesOn(lost(1, 10, 8))
	s.stands(state{1, 1, 10, 8, 0, 0, 0})
	s.goesOn(shown(1, 10, 4), accepted(limitOrder(buy, 2, 10, 9)), traded(2, 1, 10, 4), kept(1, 10, 6))
	s.stands(state{1, 1, 10, 2, 4, 0, 0}, state{2, 1, 10, 5, 4, 0, 0})
	s.goesOn(shown(1, 10, 2), lost(1, 11, 6))
	s.stands(state{1, 1, 11, 2, 4, 0, 0}, state{2, 1, 10, 5, 4, 0, 0})
}

func TestAuditReplacedPeg(t *testing.T) {
	s := tell(t, accepted(pegOrder(sell, 1, 7, 0)), moved(1, 9, 7))
	s.only(kept(1, 0, 7), ofPrice, 0)
	s.only(kept(1, 0, 7), ofQty, 1, 2, 3, 4, 5, 6, 7)
	s.only(kept(1, 0, 7), ofReason, 1)
	s.only(lost(1, 0, 8), ofPrice, 0)
	s.allBut(lost(1, 0, 8), ofQty, 0, 1, 2, 3, 4, 5, 6, 7)
	s.only(lost(1, 0, 8), ofReason, 0)
	s.goesOn(kept(1, 0, 5))
	s.stands(state{1, 1, 9, 5, 0, 0, 5})
	s.goesOn(lost(1, 0, 8))
	s.stands(state{1, 1, 9, 8, 0, 0, 5}) // what it did, till it is shown
	s.only(shown(1, 9, 8), ofQty, 8)
	s.goesOn(shown(1, 9, 8))
	s.stands(state{1, 1, 9, 8, 0, 0, 8})
	s.goesOn(accepted(limitOrder(buy, 2, 9, 3)), traded(2, 1, 9, 3))
	s.only(kept(1, 0, 7), ofQty, 4, 5, 6, 7, 8)
}

// Till it is shown, a peg trades no more than it did show; and if it keeps its place then, it shows all that is open, as whatever rests does.
func TestAuditReplacedPegNotShownYet(t *testing.T) {
	grown := []record{accepted(pegOrder(sell, 1, 5, 0)), moved(1, 9, 5), lost(1, 0, 9)}
	s := tell(t, grown...)
	s.goesOn(kept(1, 0, 8))
	s.stands(state{1, 1, 9, 8, 0, 0, 8})
	s = tell(t, append(grown, accepted(limitOrder(buy, 2, 9, 9)))...)
	s.only(traded(2, 1, 9, 1), ofQty, 1, 2, 3, 4, 5)
	s.goesOn(traded(2, 1, 9, 5))
	s.stands(state{1, 1, 9, 4, 5, 0, 0}, state{2, 1, 9, 4, 5, 0, 0})
	s.goesOn(kept(1, 0, 8))
	s.stands(state{1, 1, 9, 3, 5, 0, 3}, state{2, 1, 9, 4, 5, 0, 0})
}

func TestAuditReplacedPegThatIsNowhere(t *testing.T) {
	s := tell(t, accepted(pegOrder(buy, 1, 7, 0)))
	s.goesOn(kept(1, 0, 5))
	s.stands(state{1, 1, 0, 5, 0, 0, 0})
	s.goesOn(lost(1, 0, 9))
	s.stands(state{1, 1, 0, 9, 0, 0, 0})
	s.breaks(shown(1, 0, 9))
	s.goesOn(moved(1, 4, 9))
	s.stands(state{1, 1, 4, 9, 0, 0, 9})
}
