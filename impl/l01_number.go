package impl

const OK = 0
const ErrForm = 1
const ErrMany = 2
const ErrRange = 3
const ErrNone = 4
const ErrText = 5
const ErrTaken = 6
const ErrFull = 7
const ErrState = 8
const ErrAbort = 9
const ErrVote = 10

type IntResult struct {
	Code  int64
	Value int64
}
type BytesResult struct {
	Code  int64
	Bytes []byte
}
type TextResult struct {
	Code int64
	Text string
}
type IntsResult struct {
	Code int64
	List []int64
}

const maxSummed = 500
const sumStart = 23
const sumFactor = 233
const sumModulus = 65521
const leastShort = -32768
const greatestShort = 32767
const shortBytes = 2
const maxNumbers = 40
const maskBits = 16

func SumOf(data []byte) IntResult {
	if len(data) > maxSummed {
		return IntResult{Code: ErrMany}
	}
	sum := int64(sumStart)
	for _, b := range data {
		sum = (sum*sumFactor + int64(b) + 1) % sumModulus
	}
	return IntResult{Value: sum}
}

func PutNumber(n int64) BytesResult {
	if !isShort(n) {
		return BytesResult{Code: ErrRange}
	}
	return BytesResult{Bytes: appendShort(nil, n)}
}

func GetNumber(data []byte, at int64) IntResult {
	// The length is lessened, not at raised: at may be the greatest int64.
	if at < 0 || at > int64(len(data))-shortBytes {
		return IntResult{Code: ErrRange}
	}
	return IntResult{Value: shortAt(data, int(at))}
}

func PackNumbers(list []int64) BytesResult {
	if len(list) > maxNumbers {
		return BytesResult{Code: ErrMany}
	}
	packed := []byte{byte(len(list))}
	for _, n := range list {
		if !isShort(n) {
			return BytesResult{Code: ErrRange}
		}
		packed = appendShort(packed, n)
	}
	return BytesResult{Bytes: packed}
}

func ReadNumbers(data []byte) IntsResult {
	if !isPacked(data) {
		return IntsResult{Code: ErrText}
	}
	var list []int64
	for i := range int(data[0]) {
		list = append(list, shortAt(data, 1+i*shortBytes))
	}
	return IntsResult{List: list}
}

func BitsOf(mask int64) IntsResult {
	if !isWithin(mask, 0, 1<<maskBits-1) {
		return IntsResult{Code: ErrRange}
	}
	var list []int64
	for bit := range int64(maskBits) {
		if mask>>bit&1 == 1 {
			list = append(list, bit)
		}
	}
	return IntsResult{List: list}
}

func isWithin(n int64, least int64, greatest int64) bool {
	return least <= n && n <= greatest
}

func isShort(n int64) bool {
	return isWithin(n, leastShort, greatestShort)
}

// isPacked needs no look at the numbers themselves: any two bytes are a short number, and of that one alone.
func isPacked(data []byte) bool {
	if len(data) == 0 || data[0] > maxNumbers {
		return false
	}
	return len(data) == 1+int(data[0])*shortBytes
}

// appendShort leans on the wrap-round of uint16: of a number below 0 it keeps what is 65536 more.
func appendShort(to []byte, n int64) []byte {
	u := uint16(n)
	return append(to, byte(u>>8), byte(u))
}

// shortAt goes through int16, so that the highest bit takes the number below 0 again.
func shortAt(data []byte, at int) int64 {
	u := uint16(data[at])<<8 | uint16(data[at+1])
	return int64(int16(u))
}
