package tests

import (
	"fmt"
	"math"
	"slices"
	"testing"

	"loop.example/g00631/impl"
)

// Promise 2: numbers are read back from their bytes, and there is one way to write them alone; a set is the sum of its bits.

const (
	leastShort    = -32768
	greatestShort = 32767
)

var notShort = []int64{-32769, 32768, -32770, 32769, 65535, 65536, 65537, -65535, -65536, -65537,
	1 << 31, 1<<32 + 5, -(1 << 32), 1 << 48, math.MaxInt64, math.MaxInt64 - 1, math.MinInt64, math.MinInt64 + 1}

// bytesOfShort is the document's sentence in plain arithmetic.
func bytesOfShort(n int64) []byte {
	if n < 0 {
		n += 65536
	}
	return []byte{byte(n / 256), byte(n % 256)}
}

func rampOf(count int) []int64 {
	list := make([]int64, count)
	for i := range list {
		list[i] = int64(i)*1637%65536 + leastShort
	}
	return list
}

func packedByHand(list []int64) []byte {
	data := []byte{byte(len(list))}
	for _, n := range list {
		data = append(data, bytesOfShort(n)...)
	}
	return data
}

func TestCodesHaveTheirNumbers(t *testing.T) {
	got := []int64{impl.OK, impl.ErrForm, impl.ErrMany, impl.ErrRange, impl.ErrNone, impl.ErrText,
		impl.ErrTaken, impl.ErrFull, impl.ErrState, impl.ErrAbort, impl.ErrVote}
	if want := []int64{0, 1, 2, 3, 4, 5, 6, 7, 8, 9, 10}; !slices.Equal(got, want) {
		t.Errorf("got %v, want %v", got, want)
	}
}

func TestPutNumberNamedEdges(t *testing.T) {
	wantBytes(t, "0", impl.PutNumber(0), 0, 0)
	wantBytes(t, "1", impl.PutNumber(1), 0, 1)
	wantBytes(t, "-1", impl.PutNumber(-1), 255, 255)
	wantBytes(t, "-2", impl.PutNumber(-2), 255, 254)
	wantBytes(t, "255", impl.PutNumber(255), 0, 255)
	wantBytes(t, "256", impl.PutNumber(256), 1, 0)
	wantBytes(t, "-256", impl.PutNumber(-256), 255, 0)
	wantBytes(t, "258", impl.PutNumber(258), 1, 2)
	wantBytes(t, "32767", impl.PutNumber(greatestShort), 127, 255)
	wantBytes(t, "-32768", impl.PutNumber(leastShort), 128, 0)
}

func TestPutNumberOfAllShortOnes(t *testing.T) {
	for n := int64(leastShort); n <= greatestShort; n++ {
		wantBytes(t, fmt.Sprint(n), impl.PutNumber(n), bytesOfShort(n)...)
	}
}

func TestPutNumberRefusesWhatIsNotShort(t *testing.T) {
	for _, n := range notShort {
		wantBytesCode(t, fmt.Sprint(n), impl.PutNumber(n), impl.ErrRange)
	}
}

func TestGetNumberReadsBackAllShortOnes(t *testing.T) {
	for n := int64(leastShort); n <= greatestShort; n++ {
		wantInt(t, fmt.Sprint(n), impl.GetNumber(impl.PutNumber(n).Bytes, 0), n)
	}
}

func TestGetNumberIsTheOnlyNumberOfItsBytes(t *testing.T) {
	for high := range 256 {
		for low := range 256 {
			data := []byte{byte(high), byte(low)}
			got := impl.GetNumber(data, 0)
			if got.Code != impl.OK || !slices.Equal(impl.PutNumber(got.Value).Bytes, data) {
				t.Errorf("%v: got %v", data, got)
			}
		}
	}
}

func TestGetNumberAtEveryPlace(t *testing.T) {
	data := []byte{1, 2, 3, 128, 0, 255, 255, 127, 255}
	want := []int64{258, 515, 896, -32768, 255, -1, -129, 32767}
	for at, n := range want {
		wantInt(t, fmt.Sprint("at ", at), impl.GetNumber(data, int64(at)), n)
	}
}

func TestGetNumberRefusesPlacesWithoutTwoBytes(t *testing.T) {
	for length := range 6 {
		data := make([]byte, length, length+4)
		size := int64(length)
		for _, at := range []int64{-1, -2, -size, -size - 1, size - 1, size, size + 1, 1 << 32, -(1 << 32),
			math.MaxInt64, math.MaxInt64 - 1, math.MinInt64, math.MinInt64 + 1} {
			if at >= 0 && at+1 < size && at < math.MaxInt64-1 {
				continue
			}
			wantIntCode(t, fmt.Sprintf("%d bytes, at %d", length, at), impl.GetNumber(data, at), impl.ErrRange)
		}
	}
	wantIntCode(t, "nil at 0", impl.GetNumber(nil, 0), impl.ErrRange)
	wantIntCode(t, "one byte at 0", impl.GetNumber([]byte{1}, 0), impl.ErrRange)
}

func TestPackNumbersByHand(t *testing.T) {
	wantBytes(t, "nil", impl.PackNumbers(nil), 0)
	wantBytes(t, "empty", impl.PackNumbers([]int64{}), 0)
	wantBytes(t, "one", impl.PackNumbers([]int64{7}), 1, 0, 7)
	wantBytes(t, "edges", impl.PackNumbers([]int64{leastShort, greatestShort, -1, 0}), 4, 128, 0, 127, 255, 255, 255, 0, 0)
	wantBytes(t, "alike", impl.PackNumbers([]int64{258, 258, -2}), 3, 1, 2, 1, 2, 255, 254)
}

func TestNumbersOfEveryCountAreReadBack(t *testing.T) {
	for count := range 41 {
		list := rampOf(count)
		packed := impl.PackNumbers(list)
		wantBytes(t, fmt.Sprint(count, " numbers packed"), packed, packedByHand(list)...)
		wantInts(t, fmt.Sprint(count, " numbers read"), impl.ReadNumbers(packed.Bytes), list...)
	}
}

func TestAllShortNumbersAreReadBackFromLists(t *testing.T) {
	for n := int64(leastShort); n <= greatestShort; n++ {
		list := []int64{n, -1 - n}
		wantInts(t, fmt.Sprint(list), impl.ReadNumbers(impl.PackNumbers(list).Bytes), list...)
	}
}

func TestPackNumbersRefusesMoreThan40(t *testing.T) {
	for _, count := range []int{41, 42, 255, 256, 257, 296, 1000} {
		wantBytesCode(t, fmt.Sprint(count), impl.PackNumbers(make([]int64, count)), impl.ErrMany)
	}
}

func TestPackNumbersRefusesWhatIsNotShort(t *testing.T) {
	for _, wrong := range notShort {
		for _, count := range []int{1, 2, 40} {
			for _, at := range []int{0, count / 2, count - 1} {
				list := rampOf(count)
				list[at] = wrong
				wantBytesCode(t, fmt.Sprintf("%d at %d of %d", wrong, at, count), impl.PackNumbers(list), impl.ErrRange)
			}
		}
	}
}

func TestPackNumbersAsksTheCountFirst(t *testing.T) {
	for _, at := range []int{0, 39, 40} {
		list := make([]int64, 41)
		list[at] = math.MaxInt64
		wantBytesCode(t, fmt.Sprint("wrong at ", at), impl.PackNumbers(list), impl.ErrMany)
	}
}

func TestReadNumbersRefusesWhatIsNotPacked(t *testing.T) {
	wantIntsCode(t, "nil", impl.ReadNumbers(nil), impl.ErrText)
	wantIntsCode(t, "no bytes", impl.ReadNumbers([]byte{}), impl.ErrText)
	wantIntsCode(t, "none follow", impl.ReadNumbers([]byte{1}), impl.ErrText)
	wantIntsCode(t, "half a number", impl.ReadNumbers([]byte{1, 5}), impl.ErrText)
	wantIntsCode(t, "too few", impl.ReadNumbers([]byte{2, 0, 7}), impl.ErrText)
	wantIntsCode(t, "a byte too many", impl.ReadNumbers([]byte{1, 0, 7, 0}), impl.ErrText)
	wantIntsCode(t, "a number too many", impl.ReadNumbers([]byte{1, 0, 7, 0, 8}), impl.ErrText)
	wantIntsCode(t, "behind an empty list", impl.ReadNumbers([]byte{0, 0}), impl.ErrText)
	wantIntsCode(t, "41 numbers", impl.ReadNumbers(packedByHand(make([]int64, 41))), impl.ErrText)
	wantIntsCode(t, "255 numbers", impl.ReadNumbers(packedByHand(make([]int64, 255))), impl.ErrText)
	wantInts(t, "an empty list", impl.ReadNumbers([]byte{0}))
}

func TestReadNumbersOfEveryCountAndLength(t *testing.T) {
	for count := range 256 {
		for length := 1; length <= 520; length++ {
			data := make([]byte, length)
			for i := range data {
				data[i] = byte(i * 89)
			}
			data[0] = byte(count)
			got := impl.ReadNumbers(data)
			if count > 40 || length != 1+2*count {
				wantIntsCode(t, fmt.Sprintf("count %d, %d bytes", count, length), got, impl.ErrText)
				continue
			}
			wantBytes(t, fmt.Sprintf("count %d packed again", count), impl.PackNumbers(got.List), data...)
		}
	}
}

func TestNumbersAreReadByPlaceInTheList(t *testing.T) {
	packed := impl.PackNumbers(rampOf(40)).Bytes
	for i, n := range rampOf(40) {
		wantInt(t, fmt.Sprint("number ", i), impl.GetNumber(packed, int64(1+2*i)), n)
	}
}

// sumByPowers is what the rule comes to when it is written out: no step of it is a step of the program's.
func sumByPowers(data []byte) int64 {
	sum, power := int64(0), int64(1)
	for i := len(data) - 1; i >= 0; i-- {
		sum = (sum + power*(int64(data[i])+1)) % 65521
		power = power * 233 % 65521
	}
	return (sum + 23*power) % 65521
}

func TestSumOfByHand(t *testing.T) {
	wantInt(t, "nil", impl.SumOf(nil), 23)
	wantInt(t, "no bytes", impl.SumOf([]byte{}), 23)
	wantInt(t, "0", impl.SumOf([]byte{0}), 5360)
	wantInt(t, "255", impl.SumOf([]byte{255}), 5615)
	wantInt(t, "0, 0", impl.SumOf([]byte{0, 0}), 3982)
	wantInt(t, "1, 2", impl.SumOf([]byte{1, 2}), 4217)
	wantInt(t, "2, 1", impl.SumOf([]byte{2, 1}), 4449)
}

func TestSumOfEveryLength(t *testing.T) {
	for length := range 501 {
		for _, step := range []int{0, 1, 97, 255} {
			data := make([]byte, length)
			for i := range data {
				data[i] = byte(255 - i*step)
			}
			wantInt(t, fmt.Sprintf("%d bytes by %d", length, step), impl.SumOf(data), sumByPowers(data))
		}
	}
}

// Without it a sum that is left unreduced in its last step would show at few inputs only.
func TestSumOfStaysBelowItsModulus(t *testing.T) {
	for first := range 256 {
		for second := range 256 {
			data := []byte{byte(first), byte(second)}
			wantInt(t, fmt.Sprint(data), impl.SumOf(data), sumByPowers(data))
		}
	}
}

func TestSumOfRefusesMoreThan500Bytes(t *testing.T) {
	for _, length := range []int{501, 502, 756, 1000, 65536} {
		wantIntCode(t, fmt.Sprint(length, " bytes"), impl.SumOf(make([]byte, length)), impl.ErrMany)
	}
}

func TestBitsOfNamedMasks(t *testing.T) {
	wantInts(t, "0", impl.BitsOf(0))
	wantInts(t, "1", impl.BitsOf(1), 0)
	wantInts(t, "5", impl.BitsOf(5), 0, 2)
	wantInts(t, "32768", impl.BitsOf(32768), 15)
	wantInts(t, "32769", impl.BitsOf(32769), 0, 15)
	wantInts(t, "65535", impl.BitsOf(65535), 0, 1, 2, 3, 4, 5, 6, 7, 8, 9, 10, 11, 12, 13, 14, 15)
}

func TestEveryMaskIsTheSumOfItsBits(t *testing.T) {
	powers := []int64{1, 2, 4, 8, 16, 32, 64, 128, 256, 512, 1024, 2048, 4096, 8192, 16384, 32768}
	for mask := range int64(65536) {
		got := impl.BitsOf(mask)
		sum, last := int64(0), int64(-1)
		for _, bit := range got.List {
			if bit <= last || bit > 15 {
				t.Fatalf("mask %d: %v does not rise from 0 to 15", mask, got.List)
			}
			sum += powers[bit]
			last = bit
		}
		wantInt(t, fmt.Sprint("mask ", mask), impl.IntResult{Code: got.Code, Value: sum}, mask)
	}
}

func TestBitsOfRefusesWhatIsNoMask(t *testing.T) {
	for _, mask := range []int64{-1, -2, -65536, -32768, 65536, 65537, 131071, 1 << 31, 1 << 32, 1<<32 + 5,
		math.MaxInt64, math.MinInt64, math.MinInt64 + 5} {
		wantIntsCode(t, fmt.Sprint(mask), impl.BitsOf(mask), impl.ErrRange)
	}
}
