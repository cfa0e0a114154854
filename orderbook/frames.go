package orderbook

// The kinds of commands.
const (
	commandNew = iota + 1
	commandCancel
	commandReplace
	commandTick
	commandClose
)

// The numbers of terms: every kind of command has some of them, in this order.
const (
	termID = iota
	termSide
	termType
	termPrice
	termQty
	termPeak
	termOffset
	termLife
	termTime
	termCount
)

// headSize is what a frame has ahead of its numbers: how many bytes follow, and the kind.
const headSize = 2

var termWidths = [termCount]int{
	termID: 4, termSide: 1, termType: 1,
	termPrice: 4, termQty: 4, termPeak: 4, termOffset: 4,
	termLife: 1, termTime: 4,
}

// termsOfKind tells which numbers a kind of command has, and whether there is such a kind: close has none of them, and is one.
func termsOfKind(kind int) ([]int, bool) {
	switch kind {
	case commandNew:
		return []int{termID, termSide, termType, termPrice, termQty, termPeak, termOffset, termLife, termTime}, true
	case commandCancel:
		return []int{termID}, true
	case commandReplace:
		return []int{termID, termPrice, termQty}, true
	case commandTick:
		return []int{termTime}, true
	case commandClose:
		return nil, true
	}
	return nil, false
}

func frameSize(terms []int) int {
	size := headSize
	for _, term := range terms {
		size += termWidths[term]
	}
	return size
}

func numbersOf(t Terms) [termCount]int {
	return [termCount]int{
		termID: t.ID, termSide: t.Side, termType: t.Type,
		termPrice: t.Price, termQty: t.Qty, termPeak: t.Peak, termOffset: t.Offset,
		termLife: t.Life, termTime: t.Time,
	}
}

func termsOf(numbers [termCount]int) Terms {
	return Terms{
		ID: numbers[termID], Side: numbers[termSide], Type: numbers[termType],
		Price: numbers[termPrice], Qty: numbers[termQty], Peak: numbers[termPeak], Offset: numbers[termOffset],
		Life: numbers[termLife], Time: numbers[termTime],
	}
}

// termHasRoom: the offset is the one term that may be below 0.
func termHasRoom(term, number int) bool {
	if term == termOffset {
		return hasSignedRoom(number)
	}
	return hasRoom(number, termWidths[term])
}

func termAt(text string, at, term int) int {
	number := numberAt(text, at, termWidths[term])
	if term == termOffset {
		return int(int32(uint32(number)))
	}
	return number
}

func encodeFrame(c Command) (string, error) {
	terms, known := termsOfKind(c.Kind)
	if !known {
		return "", ErrKind
	}
	numbers := numbersOf(c.Terms)
	frame := []byte{byte(frameSize(terms) - 1), byte(c.Kind)}
	for i, term := range terms {
		if !termHasRoom(term, numbers[term]) {
			return "", &Fault{At: i, Err: ErrRange}
		}
		frame = appendNumber(frame, numbers[term], termWidths[term])
	}
	return string(frame), nil
}

func decodeFrame(text string) (Command, int, error) {
	var (
		c       Command
		numbers [termCount]int
		terms   []int
		known   bool
		size    int
		at      = headSize
	)
	if len(text) == 0 {
		goto short
	}
	if text[0] == 0 {
		goto broken
	}
	size = 1 + int(text[0])
	// A frame that has not come whole is short whatever its kind: what is still to come is not judged yet.
	if len(text) < size {
		goto short
	}
	c.Kind = int(text[1])
	terms, known = termsOfKind(c.Kind)
	if !known || size != frameSize(terms) {
		goto broken
	}
	for _, term := range terms {
		numbers[term] = termAt(text, at, term)
		at += termWidths[term]
	}
	c.Terms = termsOf(numbers)
	return c, size, nil

short:
	return Command{}, 0, ErrShort
broken:
	return Command{}, 0, ErrFrame
}
