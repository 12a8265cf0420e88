package tests

import (
	"fmt"
	"slices"
	"testing"

	"loop.example/g00631/impl"
)

// Promise 5, of taking back: one by one, and all together.

func TestTakeBackOfOneUndo(t *testing.T) {
	list := []impl.Item{item(4, 40), item(8, 80)}
	wantItems(t, "no undo", impl.TakeBack(list, nil), 0, list)
	wantItems(t, "no undo, no items", impl.TakeBack(nil, nil), 0, nil)
	wantItems(t, "another Value", impl.TakeBack(list, []impl.Undo{was(4, -20000)}), 0, withItem(list, 0, item(4, -20000)))
	wantItems(t, "the same Value", impl.TakeBack(list, []impl.Undo{was(8, 80)}), 0, list)
	wantItems(t, "0 that was", impl.TakeBack(list, []impl.Undo{was(4, 0)}), 0, withItem(list, 0, item(4, 0)))
	wantItems(t, "ahead of the others", impl.TakeBack(list, []impl.Undo{was(1, 20000)}), 0, []impl.Item{item(1, 20000), list[0], list[1]})
	wantItems(t, "between the others", impl.TakeBack(list, []impl.Undo{was(5, 1)}), 0, []impl.Item{list[0], item(5, 1), list[1]})
	wantItems(t, "behind the others", impl.TakeBack(list, []impl.Undo{was(20, 0)}), 0, []impl.Item{list[0], list[1], item(20, 0)})
	wantItems(t, "gone", impl.TakeBack(list, []impl.Undo{wasNot(4)}), 0, list[1:])
	wantItems(t, "the last one gone", impl.TakeBack(list[1:], []impl.Undo{wasNot(8)}), 0, nil)
	wantItems(t, "gone already", impl.TakeBack(list, []impl.Undo{wasNot(5)}), 0, list)
	wantItems(t, "gone of nothing", impl.TakeBack(nil, []impl.Undo{wasNot(20)}), 0, nil)
}

// The first undo of a Key is the last one that is taken back.
func TestTakeBackGoesFromTheLastOneOn(t *testing.T) {
	list := []impl.Item{item(4, 40)}
	wantItems(t, "two Values", impl.TakeBack(list, []impl.Undo{was(4, 1), was(4, 2)}), 0, []impl.Item{item(4, 1)})
	wantItems(t, "was, then was not", impl.TakeBack(list, []impl.Undo{was(4, 1), wasNot(4)}), 0, []impl.Item{item(4, 1)})
	wantItems(t, "was not, then was", impl.TakeBack(list, []impl.Undo{wasNot(4), was(4, 1)}), 0, nil)
	wantItems(t, "four Values", impl.TakeBack(nil, []impl.Undo{was(3, 1), was(3, 2), was(3, 3), was(3, 4)}), 0, []impl.Item{item(3, 1)})
	wantItems(t, "of two Keys", impl.TakeBack(list, []impl.Undo{was(5, 7), wasNot(4), was(4, 8), was(5, 9)}), 0, []impl.Item{item(5, 7)})
}

// The room is asked in the end alone.
func TestTakeBackHasRoomForEightInTheEnd(t *testing.T) {
	seven, full := evenItems(7), evenItems(8)
	wantItems(t, "the eighth", impl.TakeBack(seven, []impl.Undo{was(16, 1600)}), 0, full)
	wantItemsCode(t, "the ninth", impl.TakeBack(full, []impl.Undo{was(1, 1)}), impl.ErrFull)
	wantItemsCode(t, "the eighth and the ninth", impl.TakeBack(seven, []impl.Undo{was(1, 1), was(3, 3)}), impl.ErrFull)
	wantItemsCode(t, "the twelfth", impl.TakeBack(full, []impl.Undo{was(1, 1), was(3, 3), was(5, 5), was(7, 7)}), impl.ErrFull)
	wantItemsCode(t, "0 as the ninth", impl.TakeBack(full, []impl.Undo{was(20, 0)}), impl.ErrFull)
	wantItems(t, "nine on the way", impl.TakeBack(full, []impl.Undo{wasNot(2), was(1, 1)}), 0, withItem(full, 0, item(1, 1)))
	wantItems(t, "nine on the way, the new one gone", impl.TakeBack(full, []impl.Undo{wasNot(1), was(1, 1)}), 0, full)
	wantItems(t, "ten on the way", impl.TakeBack(full, []impl.Undo{wasNot(2), wasNot(4), was(3, 3), was(1, 1)}), 0,
		withItem(withItem(full, 0, item(1, 1)), 1, item(3, 3)))
	wantItemsCode(t, "ten on the way, nine in the end", impl.TakeBack(full, []impl.Undo{wasNot(2), was(3, 3), was(1, 1)}), impl.ErrFull)
	wantItems(t, "room ahead", impl.TakeBack(full, []impl.Undo{was(1, 1), wasNot(2)}), 0, withItem(full, 0, item(1, 1)))
	wantItemsCode(t, "room ahead that is taken again", impl.TakeBack(full, []impl.Undo{was(1, 1), was(2, 2), wasNot(2)}), impl.ErrFull)
	wantItems(t, "another Value of what is there", impl.TakeBack(full, []impl.Undo{was(2, 2)}), 0, withItem(full, 0, item(2, 2)))
	wantItems(t, "what is not there is gone", impl.TakeBack(full, []impl.Undo{wasNot(1)}), 0, full)
}

// takenBack tells by slots: of each Key the first one of u holds, whatever is behind it.
func (s slots) takenBack(u []impl.Undo) (slots, int64) {
	then, told := s, [21]bool{}
	for _, one := range u {
		if !told[one.Key] {
			told[one.Key] = true
			then[one.Key].has, then[one.Key].value = one.Was, one.Value
		}
	}
	if len(then.items()) > 8 {
		return s, impl.ErrFull
	}
	return then, impl.OK
}

func checkTakeBack(t *testing.T, list []impl.Item, u []impl.Undo) {
	t.Helper()
	what := fmt.Sprint(list, " by ", u)
	got := impl.TakeBack(list, u)
	then, code := slotsOf(list).takenBack(u)
	if code != impl.OK {
		wantItemsCode(t, what, got, code)
		return
	}
	wantItems(t, what, got, 0, then.items())
	wantCode(t, what+", the items", impl.ItemsFault(got.Items), impl.OK)
}

// All lists of up to four undos out of some, of items with all, some, one and no more room.
func TestTakeBackOfManyUndos(t *testing.T) {
	some := []impl.Undo{wasNot(4), was(4, 0), was(4, -20000), wasNot(5), was(5, 7), was(5, 8), wasNot(20), was(20, 20000), was(1, 1)}
	for _, list := range [][]impl.Item{nil, {item(4, 500)}, {item(1, 0), item(5, 7), item(20, 1)}, evenItems(7), evenItems(8)} {
		lists := [][]impl.Undo{nil}
		for range 4 {
			var longer [][]impl.Undo
			for _, u := range lists {
				checkTakeBack(t, list, u)
				for _, one := range some {
					longer = append(longer, append(u[:len(u):len(u)], one))
				}
			}
			lists = longer
		}
		for _, u := range lists {
			checkTakeBack(t, list, u)
		}
	}
}

func TestTakeBackTellsTheFaults(t *testing.T) {
	for _, c := range allItemCases() {
		if c.code != impl.OK {
			for i, u := range [][]impl.Undo{nil, {was(2, 2)}, {{}}, {{Key: 1, Value: 1}}, make([]impl.Undo, 5)} {
				wantItemsCode(t, fmt.Sprint(c.what, " by ", i), impl.TakeBack(c.list, u), c.code)
			}
		}
	}
	for _, c := range allUndoCases() {
		if c.code != impl.OK {
			for _, list := range [][]impl.Item{nil, evenItems(4), evenItems(8)} {
				wantItemsCode(t, fmt.Sprint(c.what, " of ", len(list)), impl.TakeBack(list, c.undo), c.code)
			}
		}
	}
	wantItemsCode(t, "no room, and a Key behind it", impl.TakeBack(evenItems(8), []impl.Undo{was(1, 1), was(21, 1)}), impl.ErrRange)
	wantItemsCode(t, "no room, and a form ahead of it", impl.TakeBack(evenItems(8), []impl.Undo{{Key: 1, Value: 1}, was(1, 1)}), impl.ErrForm)
	wantItemsCode(t, "no room, and five", impl.TakeBack(evenItems(8), slices.Repeat([]impl.Undo{was(1, 1)}, 5)), impl.ErrMany)
}

func TestTakeAllByHand(t *testing.T) {
	list := []impl.Item{item(4, 40)}
	wantItems(t, "no list", impl.TakeAll(list, nil), 0, list)
	wantItems(t, "no list, no items", impl.TakeAll(nil, [][]impl.Undo{}), 0, nil)
	wantItems(t, "lists of none", impl.TakeAll(list, [][]impl.Undo{nil, {}, nil}), 0, list)
	wantItems(t, "one list", impl.TakeAll(list, [][]impl.Undo{{was(4, 1), wasNot(5)}}), 0, []impl.Item{item(4, 1)})
	wantItems(t, "the last list is the first", impl.TakeAll(list, [][]impl.Undo{{was(4, 1)}, {was(4, 2)}, {was(4, 3)}}), 0, []impl.Item{item(4, 1)})
	wantItems(t, "gone in the end", impl.TakeAll(list, [][]impl.Undo{{wasNot(4)}, {was(4, 2)}}), 0, nil)
	wantItems(t, "there in the end", impl.TakeAll(list, [][]impl.Undo{{was(4, 2)}, nil, {wasNot(4)}}), 0, []impl.Item{item(4, 2)})
	wantItems(t, "within a list too", impl.TakeAll(nil, [][]impl.Undo{{was(4, 1), was(4, 2)}, {was(4, 3), was(6, 4), wasNot(6)}}), 0, []impl.Item{item(4, 1), item(6, 4)})
}

func TestTakeAllOf20Lists(t *testing.T) {
	var undos [][]impl.Undo
	for i := range int64(20) {
		undos = append(undos, []impl.Undo{was(1, 100+i), was(i%6+2, i)})
	}
	want := []impl.Item{item(1, 100), item(2, 0), item(3, 1), item(4, 2), item(5, 3), item(6, 4), item(7, 5)}
	wantItems(t, "20", impl.TakeAll(nil, undos), 0, want)
	wantItems(t, "20 of none", impl.TakeAll(want, make([][]impl.Undo, 20)), 0, want)
	wantItemsCode(t, "21", impl.TakeAll(nil, append(undos, []impl.Undo{was(1, 1)})), impl.ErrMany)
	wantItemsCode(t, "21 of none", impl.TakeAll(want, make([][]impl.Undo, 21)), impl.ErrMany)
	wantItemsCode(t, "277 of none", impl.TakeAll(nil, make([][]impl.Undo, 277)), impl.ErrMany)
}

// Each list is a TakeBack of its own: what is too much behind one is told, also where another one would make room.
func TestTakeAllHasRoomForEightBehindEachList(t *testing.T) {
	full := evenItems(8)
	wantItems(t, "nine within one list", impl.TakeAll(full, [][]impl.Undo{nil, {wasNot(2), was(1, 1)}}), 0, withItem(full, 0, item(1, 1)))
	wantItems(t, "room by a later list", impl.TakeAll(full, [][]impl.Undo{{was(1, 1)}, {wasNot(2)}}), 0, withItem(full, 0, item(1, 1)))
	wantItemsCode(t, "room by an earlier list alone", impl.TakeAll(full, [][]impl.Undo{{wasNot(2)}, {was(1, 1)}}), impl.ErrFull)
	wantItemsCode(t, "nine in the end", impl.TakeAll(full, [][]impl.Undo{{was(1, 1)}, {was(2, 2)}}), impl.ErrFull)
	wantItemsCode(t, "nine in the end of two", impl.TakeAll(evenItems(7), [][]impl.Undo{{was(1, 1)}, {was(3, 3)}}), impl.ErrFull)
	wantItems(t, "eight in the end of two", impl.TakeAll(evenItems(7), [][]impl.Undo{{was(16, 1600)}, {was(2, 200)}}), 0, full)
}

func TestTakeAllTellsTheFaults(t *testing.T) {
	for _, c := range allItemCases() {
		if c.code != impl.OK {
			for i, undos := range [][][]impl.Undo{nil, {nil}, {{was(2, 2)}}, {{{}}}, {{{Key: 1, Value: 1}}, nil}, {make([]impl.Undo, 5)}} {
				wantItemsCode(t, fmt.Sprint(c.what, " by ", i), impl.TakeAll(c.list, undos), c.code)
			}
			wantItemsCode(t, c.what+" by 20", impl.TakeAll(c.list, make([][]impl.Undo, 20)), c.code)
			wantItemsCode(t, c.what+" by 21", impl.TakeAll(c.list, make([][]impl.Undo, 21)), impl.ErrMany)
		}
	}
	for _, c := range allUndoCases() {
		if c.code != impl.OK {
			for _, at := range []int{0, 1, 18, 19} {
				undos := slices.Repeat([][]impl.Undo{{was(2, 5), wasNot(3)}}, 21)
				undos[at] = c.undo
				what := fmt.Sprint(c.what, " in list ", at)
				wantItemsCode(t, what, impl.TakeAll(evenItems(8), undos[:20]), c.code)
				wantItemsCode(t, what+" of 21", impl.TakeAll(evenItems(8), undos), impl.ErrMany)
			}
		}
	}
}

// Of several lists that have a code the last one tells its own.
func TestTakeAllTellsTheLastListThatHasACode(t *testing.T) {
	failing := map[int64][]impl.Undo{impl.ErrMany: make([]impl.Undo, 5), impl.ErrRange: {was(21, 0)}, impl.ErrForm: {{Key: 1, Value: 1}}, impl.ErrFull: {was(1, 1)}}
	right := []impl.Undo{was(2, 7), wasNot(3)}
	for code, u := range failing {
		for earlier, other := range failing {
			start := evenItems(8)
			what := fmt.Sprint("code ", code, ", code ", earlier, " in an earlier list")
			wantItemsCode(t, what, impl.TakeAll(start, [][]impl.Undo{other, u}), code)
			wantItemsCode(t, what+", others between", impl.TakeAll(start, [][]impl.Undo{right, other, right, u, right}), code)
			wantSameItems(t, what+", the items", start, evenItems(8), true)
		}
	}
}

// doneAhead does txns one by one with DoUndo; one with a code has nothing to undo, and leaves the items as they were.
func doneAhead(start []impl.Item, txns []impl.Txn) (states [][]impl.Item, undos [][]impl.Undo) {
	states = append(states, start)
	for _, txn := range txns {
		now := states[len(states)-1]
		done := impl.DoUndo(now, txn)
		if done.Code == impl.OK {
			now = done.Items
		}
		states, undos = append(states, now), append(undos, done.Undo)
	}
	return states, undos
}

// Taken back one by one, every state comes again that was on the way; taken back all together, the one that was ahead of them.
func TestTakingBackOneByOneIsTogether(t *testing.T) {
	for seed := range uint32(40) {
		for _, start := range mixedStores() {
			states, undos := doneAhead(start, mixedTxns(seed, 20))
			last := states[20]
			now := last
			for at := 19; at >= 0; at-- {
				what := fmt.Sprint("seed ", seed, " of ", start, " back to ", at)
				back := impl.TakeBack(now, undos[at])
				wantItems(t, what, back, 0, states[at])
				wantItems(t, what+", all together", impl.TakeAll(last, undos[at:]), 0, states[at])
				now = back.Items
			}
			wantSameItems(t, "in the end", now, start, true)
		}
	}
}

// In two parts, cut anywhere: the later lists first, then the earlier ones.
func TestTakingBackInTwoPartsIsTogether(t *testing.T) {
	for seed := range uint32(10) {
		for _, start := range mixedStores() {
			states, undos := doneAhead(start, mixedTxns(seed, 20))
			for cut := range 21 {
				what := fmt.Sprint("seed ", seed, " of ", start, " cut at ", cut)
				later := impl.TakeAll(states[20], undos[cut:])
				wantItems(t, what+", the later part", later, 0, states[cut])
				wantItems(t, what, impl.TakeAll(later.Items, undos[:cut]), 0, start)
			}
		}
	}
}

// What was done behind the taking back is what would have been done without it.
func TestWhatIsDoneAnewIsAsIfNothingHadBeen(t *testing.T) {
	for seed := range uint32(10) {
		for _, start := range mixedStores() {
			states, undos := doneAhead(start, mixedTxns(seed, 20))
			back := impl.TakeAll(states[20], undos)
			others := mixedTxns(seed+100, 20)
			want := impl.ExecAll(start, others)
			wantAnswers(t, fmt.Sprint("seed ", seed, " of ", start), impl.ExecAll(back.Items, others), want.Codes, want.Values, want.Items)
		}
	}
}
