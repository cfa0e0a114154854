package orderbook

// hasRoom tells whether a number that is not below 0 has room in so many bytes. The shift keeps the sign, so that one below 0 leaves something over, too.
func hasRoom(number, width int) bool { return number>>(8*width) == 0 }

// hasSignedRoom tells whether a number has room in four bytes of two's complement.
func hasSignedRoom(number int) bool { return number == int(int32(number)) }

// appendNumber lays a number behind a text, the high byte first.
func appendNumber(text []byte, number, width int) []byte {
	for width > 0 {
		width--
		text = append(text, byte(number>>(8*width)))
	}
	return text
}

// numberAt reads the number that begins at a place of a text, the high byte first.
func numberAt(text string, at, width int) int {
	number := 0
	for i := range width {
		number = number<<8 | int(text[at+i])
	}
	return number
}
