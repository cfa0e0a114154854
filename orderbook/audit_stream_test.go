package orderbook_test

import (
	"slices"
	"strings"
	"testing"

	"orderbook/orderbook"
)

const recordSize = 22

// mixedStream tells all that comes of a mixed day's commands.
func mixedStream(t *testing.T, seed, commands int) string {
	t.Helper()
	var text strings.Builder
	m := mixed(seed)
	d := mixedDesk(t, &m)
	for id := 1; id <= commands; id++ {
		text.WriteString(d.engine.Apply(frameOf(t, mixedCommand(&m, id))))
	}
	return text.String()
}

// What an engine tells can be, and is all that it takes to know how its orders stand.
func TestAuditTellsWhatOrdersDoes(t *testing.T) {
	for seed := range 40 {
		m := mixed(seed)
		d := mixedDesk(t, &m)
		text := ""
		for id := 1; id <= 300; id++ {
			c := mixedCommand(&m, id)
			text += d.engine.Apply(frameOf(t, c))
			got, err := orderbook.Audit(text)
			if want := d.engine.Orders(); !slices.Equal(got, want) || err != nil {
				t.Fatalf("seed %d, behind %+v:\ngot  %+v, %v\nwant %+v", seed, c, got, err, want)
			}
		}
	}
}

func TestAuditOfRawBytes(t *testing.T) {
	d := smallDesk(t)
	text := d.engine.Apply("\x00\x03\x01\x02\x03\x05\x04\x00\x00\x00\x05\x05\x04\x00\x00\x00\x04")
	wantAudit(t, text)
	wantAudit(t, text+"\x01\x00\x00\x00\x04"+textOf(accepted(limitOrder(buy, 7, 5, 3)))[5:], state{7, 1, 5, 3, 0, 0, 0})
}

// Example 8 of the document.
func TestAuditExample(t *testing.T) {
	text := textOf(accepted(limitOrder(buy, 7, 5, 3)), shown(7, 5, 3), accepted(limitOrder(sell, 8, 4, 2)), traded(8, 7, 5, 2))
	wantAudit(t, text, state{7, 1, 5, 1, 2, 0, 1}, state{8, 2, 4, 0, 2, 0, 0})
	wantNoAudit(t, text[:22]+text[44:], orderbook.ErrGap, 2)
	wantNoAudit(t, text[:23], orderbook.ErrShort, 2)
	wantNoAudit(t, text[:43], orderbook.ErrShort, 2)
}

func TestAuditOfBeginnings(t *testing.T) {
	text := mixedStream(t, 3, 60)
	for size := range len(text) + 1 {
		if size%recordSize != 0 {
			wantNoAudit(t, text[:size], orderbook.ErrShort, size/recordSize+1)
		} else if _, err := orderbook.Audit(text[:size]); err != nil {
			t.Errorf("the first %d bytes: %v", size, err)
		}
	}
}

func TestAuditFindsGaps(t *testing.T) {
	text := mixedStream(t, 5, 40)
	count := len(text) / recordSize
	at := func(i int) string { return text[i*recordSize : (i+1)*recordSize] }
	for i := range count {
		head, tail := text[:i*recordSize], text[(i+1)*recordSize:]
		if i < count-1 {
			wantNoAudit(t, head+tail, orderbook.ErrGap, i+1)
			wantNoAudit(t, head+at(i+1)+at(i)+tail[recordSize:], orderbook.ErrGap, i+1)
		}
		wantNoAudit(t, head+at(i)+at(i)+tail, orderbook.ErrGap, i+2)
		for b := 1; b <= 4; b++ {
			bent := []byte(text)
			bent[i*recordSize+b] ^= 0x81
			wantNoAudit(t, string(bent), orderbook.ErrGap, i+1)
		}
	}
}

func TestAuditFindsKindsThatThereAreNot(t *testing.T) {
	text := textOf(rejected(0, 1), rejected(0, 1), rejected(0, 1))
	for i := range 3 {
		for _, kind := range []byte{0, 9, 10, 128, 255} {
			wrong := []byte(text)
			wrong[i*recordSize] = kind
			wantNoAudit(t, string(wrong), orderbook.ErrRecord, i+1)
		}
	}
}

// Of one record, what is named first is told; of several, what is wrong with the first.
func TestAuditFirstFault(t *testing.T) {
	good := textOf(rejected(0, 1))
	broken := textOf(rejected(0, 0))
	gap := "\x02\x00\x00\x00\x09" + broken[5:]
	noKind := "\x09" + gap[1:]
	wantNoAudit(t, broken, orderbook.ErrBroken, 1)
	wantNoAudit(t, gap, orderbook.ErrGap, 1)
	wantNoAudit(t, noKind, orderbook.ErrRecord, 1)
	wantNoAudit(t, noKind[:21], orderbook.ErrShort, 1)
	for _, later := range []string{good, gap, noKind, noKind[:21], "\x09"} {
		wantNoAudit(t, broken+later, orderbook.ErrBroken, 1)
		wantNoAudit(t, gap+later, orderbook.ErrGap, 1)
		wantNoAudit(t, noKind+later, orderbook.ErrRecord, 1)
	}
	wantNoAudit(t, good+gap, orderbook.ErrGap, 2)
	wantNoAudit(t, good+noKind, orderbook.ErrRecord, 2)
	wantNoAudit(t, good+noKind[:1], orderbook.ErrShort, 2)
	wantNoAudit(t, good+good, orderbook.ErrGap, 2)
}

func TestAuditOfGreatNumbers(t *testing.T) {
	s := tell(t,
		accepted(limitOrder(sell, most, most, most)), shown(most, most, most),
		accepted(limitOrder(buy, most-1, most, most)), traded(most-1, most, most, most-1),
	)
	s.stands(state{most - 1, 1, most, 1, most - 1, 0, 0}, state{most, 1, most, 1, most - 1, 0, 1})
	s.goesOn(lost(most, 1, most), shown(most, 1, 1), cancelled(most, 1, 3), cancelled(most-1, 1, 2))
	s.stands(state{most - 1, 3, most, 0, most - 1, 1, 0}, state{most, 3, 1, 0, most - 1, 1, 0})
}

// The lists are the caller's, spare room too; and an audit knows nothing of the one ahead of it.
func TestAuditsAreTheCallers(t *testing.T) {
	text := textOf(accepted(limitOrder(buy, 2, 5, 3)), accepted(limitOrder(buy, 1, 5, 3)), cancelled(2, 3, 1))
	one, _ := orderbook.Audit(text)
	two, _ := orderbook.Audit(text)
	clear(one)
	_ = append(one[:1], state{}, state{}, state{})
	if want := []state{{1, 1, 5, 3, 0, 0, 0}, {2, 3, 5, 0, 0, 3, 0}}; !slices.Equal(two, want) {
		t.Errorf("two lists share memory: %+v", two)
	}
	wantAudit(t, text, two...)
	wantAudit(t, "")
}

// faultMayBe tells whether an audit's error is one of its reasons, at a record that the text has, or lacks.
func faultMayBe(text string, err error) bool {
	for at := 1; at <= len(text)/recordSize+1; at++ {
		for _, reason := range []error{orderbook.ErrShort, orderbook.ErrRecord, orderbook.ErrGap, orderbook.ErrBroken} {
			if isJust(err, reason, at) {
				return true
			}
		}
	}
	return false
}

// FuzzAudit: no text makes an audit panic; what it tells is sound, and so is why it tells nothing.
func FuzzAudit(f *testing.F) {
	f.Add("")
	f.Add("\x01\x00\x00\x00\x01")
	f.Add(textOf(accepted(limitOrder(buy, 7, 5, 3)), shown(7, 5, 3), accepted(limitOrder(sell, 8, 4, 2)), traded(8, 7, 5, 2), cancelled(7, 1, 1)))
	f.Add(textOf(accepted(pegOrder(buy, 7, 3, 0)), moved(7, 5, 3), lost(7, 0, 4), shown(7, 5, 4), parked(7), rejected(1, 10)))
	f.Add(textOf(accepted(icebergOrder(sell, 1, 9, 8, 2)), shown(1, 9, 2), kept(1, 9, 4)))
	f.Fuzz(func(t *testing.T, text string) {
		list, err := orderbook.Audit(text)
		if err != nil {
			if list != nil || !faultMayBe(text, err) {
				t.Fatalf("Audit(%x): %+v, %v", text, list, err)
			}
			return
		}
		id := 0
		for _, s := range list {
			alive := s.Open > 0
			if s.ID <= id || alive != (s.Status == 1) || s.Shown < 0 || s.Shown > s.Open || alive && s.Cancelled != 0 {
				t.Fatalf("Audit(%x): %+v", text, list)
			}
			id = s.ID
		}
	})
}
