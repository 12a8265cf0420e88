package tests

import (
	"fmt"
	"math"
	"slices"
	"testing"

	"loop.example/g00631/impl"
)

// Promise 1, of chapter 4.

func manyUndos() [][]impl.Undo {
	return [][]impl.Undo{nil, {}, {{}}, {was(1, 0)}, {wasNot(4)}, {was(4, 1), was(4, 2)}, {wasNot(2), was(1, 1)}, {{Key: 1, Value: 1}}, someUndos(),
		{was(math.MaxInt64, math.MinInt64)}, {was(1, 1), was(3, 3), was(5, 5), was(7, 7)}, slices.Repeat([]impl.Undo{was(1, 2)}, 5), make([]impl.Undo, 300)}
}

func manyUndoLists() [][][]impl.Undo {
	right := []impl.Undo{was(2, 7), wasNot(3)}
	lists := [][][]impl.Undo{nil, {}, {nil, {}}, {right, right}, {{wasNot(2)}, {was(1, 1)}}, {{was(1, 1)}, {wasNot(2)}},
		make([][]impl.Undo, 20), slices.Repeat([][]impl.Undo{right}, 20), slices.Repeat([][]impl.Undo{right}, 21), make([][]impl.Undo, 300)}
	for _, u := range manyUndos() {
		lists = append(lists, [][]impl.Undo{u}, [][]impl.Undo{u, right}, [][]impl.Undo{right, nil, u})
	}
	return lists
}

func TestUndoLeavesAllElseAlone(t *testing.T) {
	var calls []call
	for i, list := range manyItemLists() {
		for j, txn := range manyStoreTxns() {
			calls = append(calls, call2(fmt.Sprint("DoUndo ", i, " by ", j), impl.DoUndo, list, txn))
		}
		for j, u := range manyUndos() {
			calls = append(calls, call2(fmt.Sprint("TakeBack ", i, " by ", j), impl.TakeBack, list, u))
		}
		for j, undos := range manyUndoLists() {
			calls = append(calls, call2(fmt.Sprint("TakeAll ", i, " by ", j), impl.TakeAll, list, undos))
		}
	}
	for i, u := range manyUndos() {
		calls = append(calls, call1(fmt.Sprint("UndoFault ", i), impl.UndoFault, u))
		for j, other := range manyUndos() {
			calls = append(calls, call2(fmt.Sprint("SameUndo ", i, " and ", j), impl.SameUndo, u, other))
		}
	}
	checkCalls(t, calls)
}

// What is taken back by nothing is new memory all the same, and so are the items behind checks alone.
func TestItemsThatNothingTurnsAreNewMemory(t *testing.T) {
	list := evenItems(8)
	answers := [][]impl.Item{
		impl.DoUndo(list, acts(holds(2, 200))).Items, impl.TakeBack(list, nil).Items, impl.TakeBack(list, []impl.Undo{wasNot(1)}).Items,
		impl.TakeAll(list, nil).Items, impl.TakeAll(list, nil).Items, impl.TakeAll(list, [][]impl.Undo{nil, {}}).Items,
	}
	for i, items := range answers {
		wantSameItems(t, fmt.Sprint("answer ", i), items, evenItems(8), true)
		items[0].Value = 77
		_ = append(items[:1], item(3, 3))
	}
	wantSameItems(t, "the list behind it", list, evenItems(8), true)
}

// What undoes a transaction is the caller's own: written over, it leaves the items, and what the next one tells.
func TestUndosAreNewMemory(t *testing.T) {
	list, txn := evenItems(8), acts(put(2, 5), remove(4), add(6, 1))
	want := []impl.Undo{was(2, 200), was(4, 400), was(6, 600)}
	first, second := impl.DoUndo(list, txn), impl.DoUndo(list, txn)
	first.Undo[0] = wasNot(9)
	_ = append(first.Undo[:1], wasNot(9), wasNot(9))
	wantSameUndo(t, "the other answer", second.Undo, want, true)
	wantSameItems(t, "its items", first.Items, second.Items, true)
	wantSameItems(t, "the list behind it", list, evenItems(8), true)
	wantUndo(t, "a third one", impl.DoUndo(list, txn), 601, want, second.Items)
}

// Undos and lists of them that stand behind a length are none of it.
func TestUndoStopsAtTheLength(t *testing.T) {
	five := slices.Repeat([]impl.Undo{was(1, 2)}, 5)
	five[4] = was(3, 3)
	wantCode(t, "five cut to four", impl.UndoFault(five[:4]), impl.OK)
	wantItems(t, "taken back by four", impl.TakeBack(nil, five[:4]), 0, []impl.Item{item(1, 2)})
	undos := slices.Repeat([][]impl.Undo{{was(1, 2)}}, 21)
	undos[20] = five
	wantItems(t, "21 cut to 20", impl.TakeAll(nil, undos[:20]), 0, []impl.Item{item(1, 2)})
	wantItems(t, "nine items cut to eight", impl.TakeAll(evenItems(9)[:8], nil), 0, evenItems(8))
	wantItems(t, "nine items cut to seven", impl.TakeBack(evenItems(9)[:7], []impl.Undo{was(20, 2)}), 0, append(evenItems(7), item(20, 2)))
}
