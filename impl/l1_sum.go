package impl

// crcTop is the greatest sum, as two bytes hold it; crcTurn is what an odd sum is turned by once it is halved.
const (
	crcTop  = 65535
	crcTurn = 40961
)

// CrcStep is a sum behind a byte: bit by bit, the lowest first.
func CrcStep(sum int, b byte) int {
	if sum < 0 || sum > crcTop {
		return -1
	}
	sum ^= int(b)
	for range 8 {
		odd := sum%2 == 1
		sum /= 2
		if odd {
			sum ^= crcTurn
		}
	}
	return sum
}

// CrcOf is the sum of bytes.
func CrcOf(list []byte) int {
	step := stepByTable()
	sum := 0
	for _, b := range list {
		sum = step(sum, b)
	}
	return sum
}

// CrcPut is bytes with their sum behind them, its lower byte first.
func CrcPut(list []byte) []byte {
	sum := CrcOf(list)
	// Appended to list itself they might be written behind its end.
	out := make([]byte, 0, len(list)+2)
	out = append(out, list...)
	return append(out, byte(sum), byte(sum>>8))
}

// CrcCut is bytes without their sum; false, if that is not theirs.
func CrcCut(list []byte) ([]byte, bool) {
	end := len(list) - 2
	if end < 0 {
		return nil, false
	}
	sum := int(list[end]) + int(list[end+1])<<8
	if CrcOf(list[:end]) != sum {
		return nil, false
	}
	return append([]byte(nil), list[:end]...), true
}

// stepByTable is CrcStep, of sums that are ok, as a closure over a table of 256. The table is made once for all bytes of a list, and not once for all lists, as nothing is kept between two calls.
func stepByTable() func(sum int, b byte) int {
	var table [256]uint16
	for bit := 1; bit < len(table); bit *= 2 {
		// A sum of two is two sums: one bit more doubles what the table has.
		turn := uint16(CrcStep(0, byte(bit)))
		for low := range bit {
			table[bit+low] = table[low] ^ turn
		}
	}
	return func(sum int, b byte) int {
		return sum>>8 ^ int(table[byte(sum)^b])
	}
}
