package tests

import (
	"fmt"
	"math"
	"reflect"
	"slices"
	"sync"
	"testing"

	"loop.example/g00631/impl"
)

// Promise 1: every function answers at every argument, ends, and changes none; what it answers is new memory; it hangs on the arguments alone.

var manyInts = []int64{math.MinInt64, math.MinInt64 + 1, -(1 << 32), -65537, -65536, -32769, -32768, -32767, -256, -2, -1,
	0, 1, 2, 5, 40, 41, 255, 256, 500, 501, 32767, 32768, 65535, 65536, 1 << 32, math.MaxInt64 - 1, math.MaxInt64}

func manyBytes() [][]byte {
	all := [][]byte{nil, {}, {0}, {1}, {40}, {41}, {255}, {0, 0}, {1, 255, 255}, {2, 0, 7}, {1, 0, 7, 0}}
	for _, length := range []int{80, 81, 82, 83, 499, 500, 501, 502, 1000} {
		data := make([]byte, length)
		for i := range data {
			data[i] = byte(i * 31)
		}
		for _, count := range []byte{0, 40, 41, 255} {
			data = slices.Clone(data)
			data[0] = count
			all = append(all, data)
		}
	}
	return all
}

func manyLists() [][]int64 {
	all := [][]int64{nil, {}, {0}, {-1}, {math.MaxInt64}, {0, math.MinInt64}}
	for _, count := range []int{1, 2, 39, 40, 41, 42, 300} {
		right := rampOf(count)
		wrong := slices.Clone(right)
		wrong[count-1] = 32768
		all = append(all, right, wrong)
	}
	return all
}

// numberCalls are the functions of chapter 1 at many arguments, the arguments laid into the calls.
func numberCalls() []func() any {
	var calls []func() any
	for _, data := range manyBytes() {
		calls = append(calls, func() any { return impl.SumOf(data) })
		calls = append(calls, func() any { return impl.ReadNumbers(data) })
		for _, at := range manyInts {
			calls = append(calls, func() any { return impl.GetNumber(data, at) })
		}
	}
	for _, list := range manyLists() {
		calls = append(calls, func() any { return impl.PackNumbers(list) })
	}
	for _, n := range manyInts {
		calls = append(calls, func() any { return impl.PutNumber(n) })
		calls = append(calls, func() any { return impl.BitsOf(n) })
	}
	return calls
}

func TestNumbersHangOnTheirArgumentsAlone(t *testing.T) {
	calls := numberCalls()
	first := make([]any, len(calls))
	for i, call := range calls {
		first[i] = call()
	}
	for i := len(calls) - 1; i >= 0; i-- {
		if again := calls[i](); !reflect.DeepEqual(first[i], again) {
			t.Errorf("call %d: first %v, then %v", i, first[i], again)
		}
	}
}

func TestNumbersAnswerSideBySide(t *testing.T) {
	calls := numberCalls()
	answers := make([][]any, 4)
	var all sync.WaitGroup
	for w := range answers {
		all.Go(func() {
			for _, call := range calls {
				answers[w] = append(answers[w], call())
			}
		})
	}
	all.Wait()
	for _, other := range answers[1:] {
		if !reflect.DeepEqual(answers[0], other) {
			t.Error("the same calls side by side answered otherwise")
		}
	}
}

func TestNilAndEmptyAreOneValue(t *testing.T) {
	if impl.SumOf(nil) != impl.SumOf([]byte{}) {
		t.Error("SumOf")
	}
	if impl.GetNumber(nil, 0) != impl.GetNumber([]byte{}, 0) {
		t.Error("GetNumber")
	}
	if !reflect.DeepEqual(impl.PackNumbers(nil), impl.PackNumbers([]int64{})) {
		t.Error("PackNumbers")
	}
	if !reflect.DeepEqual(impl.ReadNumbers(nil), impl.ReadNumbers([]byte{})) {
		t.Error("ReadNumbers")
	}
}

func TestNumbersChangeNoArgument(t *testing.T) {
	for i, data := range manyBytes() {
		g := guard(data, 170)
		impl.SumOf(g.list)
		g.check(t, fmt.Sprint("SumOf ", i))
		impl.ReadNumbers(g.list)
		g.check(t, fmt.Sprint("ReadNumbers ", i))
		for _, at := range manyInts {
			impl.GetNumber(g.list, at)
			g.check(t, fmt.Sprint("GetNumber ", i, " at ", at))
		}
	}
	for i, list := range manyLists() {
		g := guard(list, -7777)
		impl.PackNumbers(g.list)
		g.check(t, fmt.Sprint("PackNumbers ", i))
	}
}

// GetNumber must not look into the spare room behind data.
func TestGetNumberStopsAtTheLength(t *testing.T) {
	g := guard([]byte{1, 2, 3}, 170)
	wantInt(t, "at the last number", impl.GetNumber(g.list, 1), 515)
	wantIntCode(t, "at the last byte", impl.GetNumber(g.list, 2), impl.ErrRange)
	wantIntCode(t, "behind it", impl.GetNumber(g.list, 3), impl.ErrRange)
}

func TestReadNumbersStopsAtTheLength(t *testing.T) {
	g := guard([]byte{2, 0, 7}, 170)
	wantIntsCode(t, "too few", impl.ReadNumbers(g.list), impl.ErrText)
	g = guard([]byte{}, 0)
	wantIntsCode(t, "none", impl.ReadNumbers(g.list), impl.ErrText)
}

func TestPutNumberAnswersNewMemory(t *testing.T) {
	one, other := impl.PutNumber(-2), impl.PutNumber(-2)
	scribble(one.Bytes, 9)
	wantBytes(t, "the other answer", other, 255, 254)
	wantBytes(t, "a later answer", impl.PutNumber(-2), 255, 254)
}

func TestPackNumbersAnswersNewMemory(t *testing.T) {
	for _, list := range [][]int64{nil, {258}, rampOf(40)} {
		g := guard(list, -7777)
		one, other := impl.PackNumbers(g.list), impl.PackNumbers(g.list)
		scribble(one.Bytes, 9)
		g.check(t, "PackNumbers")
		wantBytes(t, "the other answer", other, packedByHand(list)...)
		wantBytes(t, "a later answer", impl.PackNumbers(list), packedByHand(list)...)
		scribble(g.list, 3)
		wantBytes(t, "the argument written over", other, packedByHand(list)...)
	}
}

func TestReadNumbersAnswersNewMemory(t *testing.T) {
	for _, list := range [][]int64{nil, {258}, rampOf(40)} {
		g := guard(packedByHand(list), 170)
		one, other := impl.ReadNumbers(g.list), impl.ReadNumbers(g.list)
		scribble(one.List, 9)
		g.check(t, "ReadNumbers")
		wantInts(t, "the other answer", other, list...)
		wantInts(t, "a later answer", impl.ReadNumbers(packedByHand(list)), list...)
		scribble(g.list, 3)
		wantInts(t, "the argument written over", other, list...)
	}
}

func TestBitsOfAnswersNewMemory(t *testing.T) {
	one, other := impl.BitsOf(32773), impl.BitsOf(32773)
	scribble(one.List, 9)
	wantInts(t, "the other answer", other, 0, 2, 15)
	wantInts(t, "a later answer", impl.BitsOf(32773), 0, 2, 15)
	scribble(impl.BitsOf(0).List, 9)
	wantInts(t, "nothing", impl.BitsOf(0))
}
