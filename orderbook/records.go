package orderbook

// The kinds of records.
const (
	recordAccepted = iota + 1
	recordRejected
	recordTraded
	recordCancelled
	recordReplaced
	recordShown
	recordMoved
	recordParked
)

const recordSize = 22

// readRecord reads the record with which a text begins.
func readRecord(text string) (Record, error) {
	if len(text) < recordSize {
		return Record{}, ErrShort
	}
	kind := numberAt(text, 0, 1)
	if kind < recordAccepted || kind > recordParked {
		return Record{}, ErrRecord
	}
	return Record{
		Kind:   kind,
		Seq:    numberAt(text, 1, 4),
		ID:     numberAt(text, 5, 4),
		Other:  numberAt(text, 9, 4),
		Price:  numberAt(text, 13, 4),
		Qty:    numberAt(text, 17, 4),
		Reason: numberAt(text, 21, 1),
	}, nil
}

// recordsAhead reads the records ahead of a text's first fault, and tells that fault, if there is one.
func recordsAhead(text string) ([]Record, error) {
	var list []Record
	for len(text) > 0 {
		record, err := readRecord(text)
		if err != nil {
			return list, &Fault{At: len(list), Err: err}
		}
		list = append(list, record)
		text = text[recordSize:]
	}
	return list, nil
}

func readRecords(text string) ([]Record, error) {
	list, err := recordsAhead(text)
	if err != nil {
		return nil, err
	}
	// Growing left spare room: the list is handed out without it.
	return list[:len(list):len(list)], nil
}

func appendRecord(text []byte, r Record) []byte {
	text = appendNumber(text, r.Kind, 1)
	for _, number := range [...]int{r.Seq, r.ID, r.Other, r.Price, r.Qty} {
		text = appendNumber(text, number, 4)
	}
	return appendNumber(text, r.Reason, 1)
}

// stream counts records, and holds those that were told until they are handed out.
type stream struct {
	seq  int
	text []byte
}

func (s *stream) tell(r Record) {
	s.seq++
	r.Seq = s.seq
	s.text = appendRecord(s.text, r)
}

func (s *stream) handOut() string {
	text := string(s.text)
	s.text = nil
	return text
}
