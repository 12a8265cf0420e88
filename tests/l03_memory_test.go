package tests

import (
	"fmt"
	"math"
	"testing"

	"loop.example/g00631/impl"
)

// Promise 1, of chapter 3.

func manyItemLists() [][]impl.Item {
	return [][]impl.Item{nil, {}, {{}}, {item(1, 0)}, {item(4, -5), item(20, 20000)}, evenItems(7), evenItems(8), evenItems(9), failingStore(),
		{item(2, 0), item(1, 0)}, {item(2, 0), item(2, 0)}, {item(math.MaxInt64, math.MinInt64)}, make([]impl.Item, 300)}
}

func manyStoreTxns() []impl.Txn {
	list := []impl.Txn{{}, {Acts: []impl.Act{}}, acts(), acts(impl.Act{Kind: 5, Key: 1}), txnOf(math.MinInt64, 1, 1, put(math.MaxInt64, math.MinInt64)),
		acts(put(4, 1)), acts(add(4, 1)), acts(remove(4)), acts(holds(4, 400)), acts(remove(4), put(4, 4)), acts(add(20, 1000), add(20, 1000)), someTxn(1)}
	for _, act := range failingActs() {
		list = append(list, acts(put(4, 9), act))
	}
	return list
}

func manyStoreTxnLists() [][]impl.Txn {
	return append(manyTxnLists(), mixedTxns(1, 60), mixedTxns(2, 7), mixedTxns(3, 61), []impl.Txn{acts(holds(19, 1))}, []impl.Txn{acts(remove(4)), acts(remove(4)), acts(add(4, 4))})
}

func TestStoreLeavesAllElseAlone(t *testing.T) {
	var calls []call
	for i, list := range manyItemLists() {
		calls = append(calls, call1(fmt.Sprint("ItemsFault ", i), impl.ItemsFault, list))
		for _, key := range append([]int64{4, 8, 20, 21}, manyInts...) {
			calls = append(calls, call2(fmt.Sprint("ValueAt ", i, " of ", key), impl.ValueAt, list, key))
			for _, most := range []int64{math.MinInt64, 0, 1, 3, 8, 9, math.MaxInt64} {
				calls = append(calls, call3(fmt.Sprint("RangeOf ", i, " from ", key, " most ", most), impl.RangeOf, list, key, most))
			}
		}
		for j, txn := range manyStoreTxns() {
			calls = append(calls, call2(fmt.Sprint("ExecTxn ", i, " by ", j), impl.ExecTxn, list, txn))
		}
		for j, txns := range manyStoreTxnLists() {
			calls = append(calls, call2(fmt.Sprint("ExecAll ", i, " by ", j), impl.ExecAll, list, txns))
		}
		for j, other := range manyItemLists() {
			calls = append(calls, call2(fmt.Sprint("SameItems ", i, " and ", j), impl.SameItems, list, other))
		}
	}
	checkCalls(t, calls)
}

// What a transaction leaves as it was is new memory all the same.
func TestItemsThatStayAreNewMemory(t *testing.T) {
	list := evenItems(8)
	answers := [][]impl.Item{
		impl.ExecTxn(list, acts(holds(2, 200))).Items, impl.ExecAll(list, nil).Items, impl.ExecAll(list, []impl.Txn{acts(remove(1))}).Items,
		impl.RangeOf(list, 1, 8).Items, impl.RangeOf(list, 1, 8).Items,
	}
	for i, items := range answers {
		wantSameItems(t, fmt.Sprint("answer ", i), items, evenItems(8), true)
		items[0].Value = 77
		_ = append(items[:1], item(3, 3))
	}
	wantSameItems(t, "the list behind it", list, evenItems(8), true)
}

// Items that stand behind the length of a list are none of it.
func TestStoreStopsAtTheLength(t *testing.T) {
	nine := evenItems(9)
	wantCode(t, "nine cut to eight", impl.ItemsFault(nine[:8]), impl.OK)
	wantIntCode(t, "what was cut", impl.ValueAt(nine[:8], 18), impl.ErrNone)
	wantItems(t, "a range up to it", impl.RangeOf(nine[:8], 15, 8), 1, nine[7:8])
	wantAnswers(t, "a put over what was cut", impl.ExecAll(nine[:7], []impl.Txn{acts(put(1, 1))}), []int64{0}, []int64{1}, append([]impl.Item{item(1, 1)}, evenItems(7)...))
	wantSameItems(t, "nine behind it", nine, evenItems(9), true)
}
