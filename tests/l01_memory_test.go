package tests

import (
	"fmt"
	"math"
	"slices"
	"testing"

	"loop.example/g00631/impl"
)

// Promise 1: every function answers at every argument, ends, and changes none; what it answers is new memory; it hangs on the arguments alone.

var manyInts = []int64{math.MinInt64, math.MinInt64 + 1, -(1 << 32), -65537, -65536, -32769, -32768, -32767, -256, -2, -1,
	0, 1, 2, 5, 40, 41, 255, 256, 500, 501, 32767, 32768, 65535, 65536, 1 << 32, math.MaxInt64 - 1, math.MaxInt64}

func manyBytes() [][]byte {
	all := [][]byte{nil, {}, {0}, {1}, {40}, {41}, {255}, {0, 0}, {1, 255, 255}, {2, 0, 7}, {1, 0, 7, 0}, packedByHand(rampOf(40))}
	for _, length := range []int{80, 81, 82, 83, 499, 500, 501, 502, 1000} {
		data := make([]byte, length)
		for i := range data {
			data[i] = byte(i * 31)
		}
		for _, count := range []byte{0, 40, 41, 255} {
			data = slices.Clone(data)
			data[0] = count
			all = append(all, data)
		}
	}
	return all
}

func manyLists() [][]int64 {
	all := [][]int64{nil, {}, {0}, {-1}, {math.MaxInt64}, {0, math.MinInt64}}
	for _, count := range []int{1, 2, 39, 40, 41, 42, 300} {
		right := rampOf(count)
		wrong := slices.Clone(right)
		wrong[count-1] = 32768
		all = append(all, right, wrong)
	}
	return all
}

func TestNumbersLeaveAllElseAlone(t *testing.T) {
	var calls []call
	for i, data := range manyBytes() {
		calls = append(calls, call1(fmt.Sprint("SumOf ", i), impl.SumOf, data))
		calls = append(calls, call1(fmt.Sprint("ReadNumbers ", i), impl.ReadNumbers, data))
		for _, at := range manyInts {
			calls = append(calls, call2(fmt.Sprint("GetNumber ", i, " at ", at), impl.GetNumber, data, at))
		}
	}
	for i, list := range manyLists() {
		calls = append(calls, call1(fmt.Sprint("PackNumbers ", i), impl.PackNumbers, list))
	}
	for _, n := range manyInts {
		calls = append(calls, call1(fmt.Sprint("PutNumber ", n), impl.PutNumber, n))
		calls = append(calls, call1(fmt.Sprint("BitsOf ", n), impl.BitsOf, n))
	}
	checkCalls(t, calls)
}

// GetNumber must not look into the spare room behind data.
func TestGetNumberStopsAtTheLength(t *testing.T) {
	data := layOut(&layout{}, []byte{1, 2, 3})
	wantInt(t, "at the last number", impl.GetNumber(data, 1), 515)
	wantIntCode(t, "at the last byte", impl.GetNumber(data, 2), impl.ErrRange)
	wantIntCode(t, "behind it", impl.GetNumber(data, 3), impl.ErrRange)
}

func TestReadNumbersStopsAtTheLength(t *testing.T) {
	wantIntsCode(t, "too few", impl.ReadNumbers(layOut(&layout{}, []byte{2, 0, 7})), impl.ErrText)
	wantIntsCode(t, "none", impl.ReadNumbers(layOut(&layout{}, []byte{})), impl.ErrText)
}
