package tests

import (
	"fmt"
	"math"
	"slices"
	"testing"

	"loop.example/g00631/impl"
)

// Promise 5: what was done ahead of its time is taken back without a trace, one by one or all together. Here: what undoes it.

func was(key, value int64) impl.Undo { return impl.Undo{Key: key, Was: true, Value: value} }
func wasNot(key int64) impl.Undo     { return impl.Undo{Key: key} }

// someUndos are four that are right, of four Keys.
func someUndos() []impl.Undo {
	return []impl.Undo{was(4, -20000), wasNot(1), was(20, 20000), was(7, 0)}
}

func withUndo(list []impl.Undo, at int, u impl.Undo) []impl.Undo {
	turned := slices.Clone(list)
	turned[at] = u
	return turned
}

func wantUndo(t *testing.T, what string, got impl.UndoResult, value int64, undo []impl.Undo, items []impl.Item) {
	t.Helper()
	if got.Code != impl.OK || got.Value != value || !slices.Equal(got.Undo, undo) || !slices.Equal(got.Items, items) {
		t.Errorf("%s: got %v, want value %d, %v and %v", what, got, value, undo, items)
	}
}

func wantUndoCode(t *testing.T, what string, got impl.UndoResult, code int64) {
	t.Helper()
	if got.Code != code || got.Value != 0 || len(got.Undo) != 0 || len(got.Items) != 0 {
		t.Errorf("%s: got %v, want code %d and nothing else", what, got, code)
	}
}

func wantSameUndo(t *testing.T, what string, a, b []impl.Undo, want bool) {
	t.Helper()
	if impl.SameUndo(a, b) != want || impl.SameUndo(b, a) != want {
		t.Errorf("%s: SameUndo is not %v", what, want)
	}
}

type faultyUndo struct {
	what string
	undo []impl.Undo
	code int64
}

func undoBoundsCases() []faultyUndo {
	var cases []faultyUndo
	rightKeys, wrongKeys := edges(1, 20)
	rightValues, wrongValues := edges(-20000, 20000)
	for at := range 4 {
		lay := func(what string, u impl.Undo, code int64) {
			cases = append(cases, faultyUndo{fmt.Sprint(what, " at ", at, ": ", u), withUndo(someUndos(), at, u), code})
		}
		for _, key := range rightKeys {
			lay("a right Key that was", was(key, 0), impl.OK)
			lay("a right Key that was not", wasNot(key), impl.OK)
		}
		for _, key := range wrongKeys {
			lay("a wrong Key that was", was(key, 0), impl.ErrRange)
			lay("a wrong Key that was not", wasNot(key), impl.ErrRange)
		}
		for _, value := range append(rightValues, 0) {
			lay("a right Value", was(3, value), impl.OK)
		}
		for _, value := range wrongValues {
			lay("a wrong Value", was(3, value), impl.ErrRange)
		}
	}
	return cases
}

func undoFormCases() []faultyUndo {
	var cases []faultyUndo
	for at := range 4 {
		for _, value := range []int64{-20000, -1, 1, 2, 256, 20000} {
			undo := withUndo(someUndos(), at, impl.Undo{Key: 3, Value: value})
			cases = append(cases, faultyUndo{fmt.Sprint("was not, with ", value, " at ", at), undo, impl.ErrForm})
		}
	}
	return cases
}

func undoCountCases() []faultyUndo {
	cases := []faultyUndo{{"nil", nil, impl.OK}, {"empty", []impl.Undo{}, impl.OK}}
	for count, code := range []int64{impl.OK, impl.OK, impl.OK, impl.OK, impl.OK, impl.ErrMany, impl.ErrMany} {
		cases = append(cases, faultyUndo{fmt.Sprint(count, " undos"), slices.Repeat([]impl.Undo{was(1, 2)}, count), code})
		cases = append(cases, faultyUndo{fmt.Sprint(count, " that were not"), slices.Repeat([]impl.Undo{wasNot(20)}, count), code})
	}
	return append(cases, faultyUndo{"260 undos", slices.Repeat([]impl.Undo{was(1, 2)}, 260), impl.ErrMany})
}

// undoOrderCases have several faults each; the first one that is asked is the answer.
func undoOrderCases() []faultyUndo {
	form, key, value := impl.Undo{Key: 1, Value: 1}, wasNot(0), was(1, 20001)
	five := slices.Repeat([]impl.Undo{was(1, 2)}, 5)
	return []faultyUndo{
		{"five, a Key", withUndo(five, 0, key), impl.ErrMany},
		{"five, a Value", withUndo(five, 0, value), impl.ErrMany},
		{"five, a form", withUndo(five, 0, form), impl.ErrMany},
		{"five, the fifth is none", withUndo(five, 4, impl.Undo{}), impl.ErrMany},
		{"the zero value", []impl.Undo{{}}, impl.ErrRange},
		{"a Key, and a Value that was not", []impl.Undo{{Key: 21, Value: 1}}, impl.ErrRange},
		{"a Value out of bounds that was not", []impl.Undo{{Key: 1, Value: 20001}}, impl.ErrRange},
		{"a Value below bounds that was not", []impl.Undo{{Key: 20, Value: -20001}}, impl.ErrRange},
		{"a form, then a Key", []impl.Undo{form, key}, impl.ErrForm},
		{"a form, then a Value", []impl.Undo{was(2, 2), form, value}, impl.ErrForm},
		{"a Key, then a form", []impl.Undo{key, form}, impl.ErrRange},
		{"a Value, then a form", []impl.Undo{wasNot(2), value, form}, impl.ErrRange},
	}
}

func allUndoCases() []faultyUndo {
	return slices.Concat(undoBoundsCases(), undoFormCases(), undoCountCases(), undoOrderCases(), []faultyUndo{
		{"one Key twice", []impl.Undo{was(3, 1), wasNot(3), was(3, 2)}, impl.OK},
		{"Keys that fall", []impl.Undo{was(9, 1), was(8, 1)}, impl.OK},
	})
}

func TestUndoFault(t *testing.T) {
	for _, c := range allUndoCases() {
		wantCode(t, c.what, impl.UndoFault(c.undo), c.code)
	}
}

func TestSameUndo(t *testing.T) {
	list := someUndos()
	wantSameUndo(t, "itself", list, list, true)
	wantSameUndo(t, "nothing", nil, nil, true)
	wantSameUndo(t, "nil and empty", nil, []impl.Undo{}, true)
	wantSameUndo(t, "one zero value and none", []impl.Undo{{}}, nil, false)
	wantSameUndo(t, "fewer", list[:3], list, false)
	wantSameUndo(t, "the end alone", list[1:], list, false)
	wantSameUndo(t, "turned round", []impl.Undo{list[0], list[1]}, []impl.Undo{list[1], list[0]}, false)
	wantSameUndo(t, "0 that was, and that was not", []impl.Undo{was(1, 0)}, []impl.Undo{wasNot(1)}, false)
	for at, u := range list {
		wantSameUndo(t, fmt.Sprint("alike at ", at), list, withUndo(list, at, u), true)
		wantSameUndo(t, fmt.Sprint("another Key at ", at), list, withUndo(list, at, impl.Undo{Key: u.Key + 1, Was: u.Was, Value: u.Value}), false)
		wantSameUndo(t, fmt.Sprint("another Was at ", at), list, withUndo(list, at, impl.Undo{Key: u.Key, Was: !u.Was, Value: u.Value}), false)
		wantSameUndo(t, fmt.Sprint("another Value at ", at), list, withUndo(list, at, impl.Undo{Key: u.Key, Was: u.Was, Value: u.Value + 1}), false)
	}
}

// SameUndo has no code: what has a fault, and however many there are, is the same or not as well.
func TestSameUndoOfFaultyOnes(t *testing.T) {
	faulty := []impl.Undo{was(math.MaxInt64, math.MinInt64), {Key: 1, Value: 1}, {}, {}, {}}
	wantSameUndo(t, "faulty and itself", faulty, slices.Clone(faulty), true)
	wantSameUndo(t, "faulty and one of them less", faulty, faulty[:4], false)
	wantSameUndo(t, "faulty and another", faulty, withUndo(faulty, 0, was(math.MaxInt64, 0)), false)
	wantSameUndo(t, "300 and 299", make([]impl.Undo, 300), make([]impl.Undo, 299), false)
	for _, c := range allUndoCases() {
		wantSameUndo(t, c.what, c.undo, slices.Clone(c.undo), true)
	}
}

func TestDoUndoOfOneAct(t *testing.T) {
	list := []impl.Item{item(1, 9), item(2, 0), item(20, -20000)}
	wantUndo(t, "a put into nothing", impl.DoUndo(nil, acts(put(2, 5))), 5, []impl.Undo{wasNot(2)}, []impl.Item{item(2, 5)})
	wantUndo(t, "a put over another Value", impl.DoUndo(list, acts(put(1, 5))), 5, []impl.Undo{was(1, 9)}, withItem(list, 0, item(1, 5)))
	wantUndo(t, "a put over 0", impl.DoUndo(list, acts(put(2, 5))), 5, []impl.Undo{was(2, 0)}, withItem(list, 1, item(2, 5)))
	wantUndo(t, "a put of what is so", impl.DoUndo(list, acts(put(1, 9))), 9, []impl.Undo{was(1, 9)}, list)
	wantUndo(t, "an add from nothing", impl.DoUndo(nil, acts(add(3, -7))), -7, []impl.Undo{wasNot(3)}, []impl.Item{item(3, -7)})
	wantUndo(t, "an add of 0 from nothing", impl.DoUndo(nil, acts(add(3, 0))), 0, []impl.Undo{wasNot(3)}, []impl.Item{item(3, 0)})
	wantUndo(t, "an add to what is there", impl.DoUndo(list, acts(add(20, 1000))), -19000, []impl.Undo{was(20, -20000)}, withItem(list, 2, item(20, -19000)))
	wantUndo(t, "an add of 0", impl.DoUndo(list, acts(add(1, 0))), 9, []impl.Undo{was(1, 9)}, list)
	wantUndo(t, "a delete", impl.DoUndo(list, acts(remove(20))), 0, []impl.Undo{was(20, -20000)}, list[:2])
	wantUndo(t, "a delete of 0", impl.DoUndo(list[1:2], acts(remove(2))), 0, []impl.Undo{was(2, 0)}, nil)
	wantUndo(t, "a check", impl.DoUndo(list, acts(holds(1, 9))), 9, nil, list)
}

func TestDoUndoOfSeveralActs(t *testing.T) {
	one := []impl.Item{item(1, 9)}
	wantUndo(t, "a check that holds in the end", impl.DoUndo(one, acts(put(2, 5), remove(1), holds(2, 5))), 5,
		[]impl.Undo{wasNot(2), was(1, 9)}, []impl.Item{item(2, 5)})
	wantUndo(t, "a check that holds in between", impl.DoUndo(one, acts(put(2, 5), holds(1, 9), put(1, 4))), 4,
		[]impl.Undo{wasNot(2), was(1, 9)}, []impl.Item{item(1, 4), item(2, 5)})
	wantUndo(t, "a check that holds first", impl.DoUndo(one, acts(holds(1, 9), remove(1))), 0, []impl.Undo{was(1, 9)}, nil)
	wantUndo(t, "checks alone", impl.DoUndo(one, acts(holds(1, 9), holds(1, 9), holds(1, 9), holds(1, 9))), 9, nil, one)
	wantUndo(t, "a Key put twice", impl.DoUndo(one, acts(put(1, 4), put(1, 5))), 5, []impl.Undo{was(1, 9), was(1, 4)}, []impl.Item{item(1, 5)})
	wantUndo(t, "a new Key put twice", impl.DoUndo(nil, acts(put(3, 4), put(3, 5))), 5, []impl.Undo{wasNot(3), was(3, 4)}, []impl.Item{item(3, 5)})
	wantUndo(t, "a new Key added to four times", impl.DoUndo(nil, acts(add(3, 1), add(3, 1), add(3, 1), add(3, 1))), 4,
		[]impl.Undo{wasNot(3), was(3, 1), was(3, 2), was(3, 3)}, []impl.Item{item(3, 4)})
	wantUndo(t, "a delete and a put of one Key", impl.DoUndo(one, acts(remove(1), put(1, 5))), 5, []impl.Undo{was(1, 9), wasNot(1)}, []impl.Item{item(1, 5)})
	wantUndo(t, "a delete and an add of one Key", impl.DoUndo(one, acts(remove(1), add(1, 5))), 5, []impl.Undo{was(1, 9), wasNot(1)}, []impl.Item{item(1, 5)})
	wantUndo(t, "a put and a delete of one Key", impl.DoUndo(nil, acts(put(1, 5), remove(1))), 0, []impl.Undo{wasNot(1), was(1, 5)}, nil)
	wantUndo(t, "put, gone, put, gone", impl.DoUndo(one, acts(put(7, 1), remove(7), put(7, 2), remove(7))), 0,
		[]impl.Undo{wasNot(7), was(7, 1), wasNot(7), was(7, 2)}, one)
	wantUndo(t, "not sorted by Key", impl.DoUndo(nil, acts(put(20, 1), put(1, 2), put(9, 3))), 3,
		[]impl.Undo{wasNot(20), wasNot(1), wasNot(9)}, []impl.Item{item(1, 2), item(9, 3), item(20, 1)})
}

// The codes of ExecTxn: of the items, of the transaction, and of the acts, in this order.
func TestDoUndoTellsTheCodesOfExecTxn(t *testing.T) {
	for _, c := range allItemCases() {
		if c.code != impl.OK {
			for i, txn := range []impl.Txn{acts(put(2, 1)), acts(remove(19)), acts(), {}, acts(impl.Act{Kind: 5, Key: 1})} {
				wantUndoCode(t, fmt.Sprint(c.what, " by ", i), impl.DoUndo(c.list, txn), c.code)
			}
		}
	}
	for _, c := range allTxnCases() {
		if c.code != impl.OK {
			wantUndoCode(t, c.what+" of nothing", impl.DoUndo(nil, c.txn), c.code)
			wantUndoCode(t, c.what+" of eight", impl.DoUndo(evenItems(8), c.txn), c.code)
		}
	}
}

// Wherever the act stands that fails, its code is told and nothing is turned; a later one that fails too is not told.
func TestDoUndoTellsTheFirstActThatFails(t *testing.T) {
	ahead := []impl.Act{put(6, 7), add(8, 7), holds(10, 1000)}
	for code, act := range failingActs() {
		for at := range 4 {
			start := failingStore()
			what := fmt.Sprint(act, " at ", at)
			wantUndoCode(t, what, impl.DoUndo(start, acts(append(ahead[:at:at], act)...)), code)
			wantSameItems(t, what+", the items", start, failingStore(), true)
		}
		for _, later := range failingActs() {
			wantUndoCode(t, fmt.Sprint(act, ", then ", later), impl.DoUndo(failingStore(), acts(put(6, 7), act, remove(8), later)), code)
		}
	}
}

// undosOf tells by slots what undoes the acts of a transaction that can be done.
func (s slots) undosOf(txn impl.Txn) []impl.Undo {
	var list []impl.Undo
	for _, a := range txn.Acts {
		if a.Kind != impl.ActCheck {
			list = append(list, impl.Undo{Key: a.Key, Was: s[a.Key].has, Value: s[a.Key].value})
		}
		s.act(a)
	}
	return list
}

// checkDoUndo holds DoUndo against the slots, and takes back what it did.
func checkDoUndo(t *testing.T, list []impl.Item, txn impl.Txn) {
	t.Helper()
	what := fmt.Sprint(list, " by ", txn.Acts)
	done := impl.DoUndo(list, txn)
	then, value, code := slotsOf(list).exec(txn)
	if code != impl.OK {
		wantUndoCode(t, what, done, code)
		return
	}
	wantUndo(t, what, done, value, slotsOf(list).undosOf(txn), then.items())
	wantCode(t, what+", its undos", impl.UndoFault(done.Undo), impl.OK)
	wantItems(t, what+", taken back", impl.TakeBack(done.Items, done.Undo), 0, list)
	wantItems(t, what+", taken back as all", impl.TakeAll(done.Items, [][]impl.Undo{done.Undo}), 0, list)
}

func TestWhatIsDoneIsTakenBackWithoutATrace(t *testing.T) {
	overManyTxns(func(list []impl.Item, txn impl.Txn) { checkDoUndo(t, list, txn) })
	for seed := range uint32(40) {
		for _, list := range mixedStores() {
			for _, txn := range mixedTxns(seed, 60) {
				checkDoUndo(t, list, txn)
			}
		}
	}
}
