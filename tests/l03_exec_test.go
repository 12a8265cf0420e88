package tests

import (
	"fmt"
	"slices"
	"testing"

	"loop.example/g00631/impl"
)

// Promise 4, of what transactions turn.

func TestExecTxnPuts(t *testing.T) {
	wantItems(t, "into nothing", impl.ExecTxn(nil, acts(put(2, 5))), 5, []impl.Item{item(2, 5)})
	wantItems(t, "0 is a Value too", impl.ExecTxn(nil, acts(put(20, 0))), 0, []impl.Item{item(20, 0)})
	wantItems(t, "over another Value", impl.ExecTxn([]impl.Item{item(2, 20000)}, acts(put(2, -1000))), -1000, []impl.Item{item(2, -1000)})
	wantItems(t, "ahead, between and behind", impl.ExecTxn([]impl.Item{item(5, 50), item(10, 100)}, acts(put(20, 3), put(7, 2), put(1, 1))), 1,
		[]impl.Item{item(1, 1), item(5, 50), item(7, 2), item(10, 100), item(20, 3)})
	wantItems(t, "one Key twice", impl.ExecTxn(nil, acts(put(3, 1), put(3, 2))), 2, []impl.Item{item(3, 2)})
}

func TestExecTxnAdds(t *testing.T) {
	wantItems(t, "from nothing", impl.ExecTxn(nil, acts(add(2, 7))), 7, []impl.Item{item(2, 7)})
	wantItems(t, "below 0 from nothing", impl.ExecTxn([]impl.Item{item(1, 9)}, acts(add(2, -1000))), -1000, []impl.Item{item(1, 9), item(2, -1000)})
	wantItems(t, "0 from nothing", impl.ExecTxn(nil, acts(add(2, 0))), 0, []impl.Item{item(2, 0)})
	wantItems(t, "to what is there", impl.ExecTxn([]impl.Item{item(2, 5)}, acts(add(2, 3))), 8, []impl.Item{item(2, 8)})
	wantItems(t, "to a put", impl.ExecTxn(nil, acts(put(2, 5), add(2, 3), add(2, -9))), -1, []impl.Item{item(2, -1)})
	wantItems(t, "from nothing behind a delete", impl.ExecTxn([]impl.Item{item(2, 5)}, acts(remove(2), add(2, 3))), 3, []impl.Item{item(2, 3)})
}

func TestExecTxnAddsUpToTheBounds(t *testing.T) {
	for _, sign := range []int64{1, -1} {
		cases := []struct {
			was, more int64
			right     bool
		}{
			{19000, 1000, true}, {19000, 999, true}, {19001, 1000, false}, {19999, 1, true}, {19999, 2, false},
			{20000, 0, true}, {20000, 1, false}, {20000, 1000, false}, {20000, -1, true}, {-20000, 1000, true},
		}
		for _, c := range cases {
			was, more := sign*c.was, sign*c.more
			what := fmt.Sprint(was, " and ", more)
			got := impl.ExecTxn([]impl.Item{item(3, 33), item(9, was)}, acts(add(9, more)))
			if c.right {
				wantItems(t, what, got, was+more, []impl.Item{item(3, 33), item(9, was+more)})
			} else {
				wantItemsCode(t, what, got, impl.ErrRange)
			}
		}
		start := []impl.Item{item(9, sign*19500)}
		wantItemsCode(t, "out of bounds in the middle alone", impl.ExecTxn(start, acts(add(9, sign*501), add(9, -sign*501))), impl.ErrRange)
		wantItems(t, "the other way round", impl.ExecTxn(start, acts(add(9, -sign*501), add(9, sign*501))), sign*19500, start)
		wantItems(t, "up to the bound in steps", impl.ExecTxn(start, acts(add(9, sign*499), add(9, sign))), sign*20000, []impl.Item{item(9, sign*20000)})
	}
}

func TestExecTxnDeletes(t *testing.T) {
	full := evenItems(8)
	for at, it := range full {
		wantItems(t, fmt.Sprint("Key ", it.Key), impl.ExecTxn(full, acts(remove(it.Key))), 0, slices.Delete(slices.Clone(full), at, at+1))
		wantItemsCode(t, fmt.Sprint("Key ", it.Key-1), impl.ExecTxn(full, acts(remove(it.Key-1))), impl.ErrNone)
	}
	wantItems(t, "the last item", impl.ExecTxn([]impl.Item{item(2, 8)}, acts(remove(2))), 0, nil)
	wantItems(t, "all", impl.ExecTxn(evenItems(4), acts(remove(4), remove(8), remove(2), remove(6))), 0, nil)
	wantItems(t, "an item of Value 0", impl.ExecTxn([]impl.Item{item(2, 0)}, acts(remove(2))), 0, nil)
	wantItems(t, "what was put", impl.ExecTxn(nil, acts(put(2, 8), remove(2))), 0, nil)
	wantItemsCode(t, "from nothing", impl.ExecTxn(nil, acts(remove(1))), impl.ErrNone)
	wantItemsCode(t, "twice", impl.ExecTxn([]impl.Item{item(2, 8)}, acts(remove(2), remove(2))), impl.ErrNone)
}

func TestExecTxnChecks(t *testing.T) {
	list := []impl.Item{item(1, 0), item(2, 1000), item(3, -1000), item(4, 20000)}
	for _, it := range list[:3] {
		wantItems(t, fmt.Sprint(it, " holds"), impl.ExecTxn(list, acts(holds(it.Key, it.Value))), it.Value, list)
	}
	wantItemsCode(t, "one more", impl.ExecTxn(list, acts(holds(1, 1))), impl.ErrAbort)
	wantItemsCode(t, "one less", impl.ExecTxn(list, acts(holds(2, 999))), impl.ErrAbort)
	wantItemsCode(t, "the other sign", impl.ExecTxn(list, acts(holds(3, 1000))), impl.ErrAbort)
	wantItemsCode(t, "the Value of another Key", impl.ExecTxn(list, acts(holds(2, 0))), impl.ErrAbort)
	wantItemsCode(t, "a Value that no check can have", impl.ExecTxn(list, acts(holds(4, 1000))), impl.ErrAbort)
	wantItemsCode(t, "a Key that is not there", impl.ExecTxn(list, acts(holds(5, 5))), impl.ErrAbort)
	wantItemsCode(t, "0 of a Key that is not there", impl.ExecTxn(list, acts(holds(5, 0))), impl.ErrAbort)
	wantItemsCode(t, "0 of a Key that is gone", impl.ExecTxn(list, acts(remove(1), holds(1, 0))), impl.ErrAbort)
	wantItemsCode(t, "what was ahead of a put", impl.ExecTxn(list, acts(put(1, 4), holds(1, 0))), impl.ErrAbort)
	wantItems(t, "what was put and added", impl.ExecTxn(list, acts(put(1, 4), add(1, 3), holds(1, 7))), 7, withItem(list, 0, item(1, 7)))
	wantItems(t, "a check leaves a full store", impl.ExecTxn(evenItems(8), acts(holds(2, 200))), 200, evenItems(8))
}

// Whatever comes later, there is no room in the middle; what is gone ahead leaves its room.
func TestExecTxnHasRoomForEight(t *testing.T) {
	seven, full := evenItems(7), evenItems(8)
	for _, lay := range []func(key, value int64) impl.Act{put, add} {
		what := fmt.Sprint("kind ", lay(1, 1).Kind)
		wantItems(t, what+": the eighth", impl.ExecTxn(seven, acts(lay(16, 5))), 5, withItem(full, 7, item(16, 5)))
		wantItemsCode(t, what+": eighth and ninth", impl.ExecTxn(seven, acts(lay(16, 5), lay(17, 5))), impl.ErrFull)
		for _, key := range []int64{1, 9, 20} {
			wantItemsCode(t, fmt.Sprint(what, ": the ninth of Key ", key), impl.ExecTxn(full, acts(lay(key, 5))), impl.ErrFull)
			wantItemsCode(t, fmt.Sprint(what, ": gone at once, Key ", key), impl.ExecTxn(full, acts(lay(key, 5), remove(key))), impl.ErrFull)
		}
		wantItemsCode(t, what+": another one gone later", impl.ExecTxn(full, acts(lay(9, 5), remove(2))), impl.ErrFull)
		wantItemsCode(t, what+": two behind one that is gone", impl.ExecTxn(full, acts(remove(2), lay(1, 5), lay(9, 5), remove(4))), impl.ErrFull)
		wantItems(t, what+": another one gone earlier", impl.ExecTxn(full, acts(remove(2), lay(1, 5))), 5, withItem(full, 0, item(1, 5)))
		wantItems(t, what+": two behind two that are gone", impl.ExecTxn(full, acts(remove(4), remove(2), lay(3, 8), lay(1, 5))), 5,
			withItem(withItem(full, 0, item(1, 5)), 1, item(3, 8)))
		wantItems(t, what+": deleted and there again", impl.ExecTxn(full, acts(remove(8), lay(8, 5))), 5, withItem(full, 3, item(8, 5)))
		wantItems(t, what+": 0 as the eighth", impl.ExecTxn(seven, acts(lay(16, 0))), 0, withItem(full, 7, item(16, 0)))
		wantItemsCode(t, what+": 0 as the ninth", impl.ExecTxn(full, acts(lay(1, 0))), impl.ErrFull)
	}
	wantItems(t, "a put of what is there", impl.ExecTxn(full, acts(put(16, 5))), 5, withItem(full, 7, item(16, 5)))
	wantItems(t, "an add to what is there", impl.ExecTxn(full, acts(add(16, 5))), 1605, withItem(full, 7, item(16, 1605)))
}

func TestExecTxnTellsTheValueOfTheLastKey(t *testing.T) {
	list := []impl.Item{item(1, 11), item(2, 22), item(3, 20000)}
	wantItems(t, "a put", impl.ExecTxn(list, acts(put(1, 4), put(2, 5))), 5, []impl.Item{item(1, 4), item(2, 5), item(3, 20000)})
	wantItems(t, "an add", impl.ExecTxn(list, acts(put(1, 4), add(2, 5))), 27, []impl.Item{item(1, 4), item(2, 27), item(3, 20000)})
	wantItems(t, "an add far out", impl.ExecTxn(list, acts(add(3, -1))), 19999, withItem(list, 2, item(3, 19999)))
	wantItems(t, "a check", impl.ExecTxn(list, acts(put(1, 4), holds(2, 22))), 22, withItem(list, 0, item(1, 4)))
	wantItems(t, "a delete", impl.ExecTxn(list, acts(put(1, 4), remove(2))), 0, []impl.Item{item(1, 4), item(3, 20000)})
	wantItems(t, "a delete behind a put of the Key", impl.ExecTxn(list, acts(put(2, 4), remove(2))), 0, []impl.Item{item(1, 11), item(3, 20000)})
	wantItems(t, "a put behind a delete", impl.ExecTxn(list, acts(remove(1), put(2, 4))), 4, []impl.Item{item(2, 4), item(3, 20000)})
}

func TestExecTxnTellsTheTxnFault(t *testing.T) {
	for _, c := range allTxnCases() {
		if c.code == impl.OK {
			continue
		}
		for _, list := range [][]impl.Item{nil, evenItems(8)} {
			wantItemsCode(t, c.what, impl.ExecTxn(list, c.txn), c.code)
		}
	}
}

// The fault of a later act is told ahead of what an earlier one meets: the TxnFault is asked of the whole.
func TestExecTxnAsksTheTxnFaultAheadOfTheActs(t *testing.T) {
	full := evenItems(8)
	for _, first := range []impl.Act{remove(1), holds(1, 1), put(1, 1), add(1, 1)} {
		what := fmt.Sprint(first)
		wantItemsCode(t, what+", then a Key", impl.ExecTxn(full, acts(first, put(21, 1))), impl.ErrRange)
		wantItemsCode(t, what+", then a Kind", impl.ExecTxn(full, acts(first, first, impl.Act{Kind: 5, Key: 1})), impl.ErrForm)
		wantItemsCode(t, what+", five times", impl.ExecTxn(full, acts(first, first, first, first, first)), impl.ErrMany)
		wantItemsCode(t, what+", no Id", impl.ExecTxn(full, txnOf(0, 1, 1, first)), impl.ErrRange)
	}
}

// failingActs have each its code where the store is failingStore.
func failingActs() map[int64]impl.Act {
	return map[int64]impl.Act{impl.ErrRange: add(2, 1), impl.ErrNone: remove(1), impl.ErrAbort: holds(4, 1), impl.ErrFull: put(1, 1)}
}

func failingStore() []impl.Item { return withItem(evenItems(8), 0, item(2, 20000)) }

func TestExecTxnTellsTheFirstActThatFails(t *testing.T) {
	for code, act := range failingActs() {
		wantItemsCode(t, fmt.Sprint(act, " alone"), impl.ExecTxn(failingStore(), acts(act)), code)
		for _, later := range failingActs() {
			wantItemsCode(t, fmt.Sprint(act, " and ", later), impl.ExecTxn(failingStore(), acts(act, later)), code)
			wantItemsCode(t, fmt.Sprint(act, " and ", later, " behind others"), impl.ExecTxn(failingStore(), acts(put(6, 1), act, remove(8), later)), code)
		}
	}
}

// Wherever the act stands that fails, nothing of the others is left.
func TestTransactionsAreDoneWhollyOrNotAtAll(t *testing.T) {
	others := []impl.Act{put(6, 7), add(8, 7), put(10, 7), add(12, -7)}
	for code, act := range failingActs() {
		for at := range 4 {
			list := slices.Clone(others)
			list[at] = act
			start := failingStore()
			what := fmt.Sprint(act, " at ", at)
			wantItemsCode(t, what, impl.ExecTxn(start, acts(list...)), code)
			wantSameItems(t, what+", the items", start, failingStore(), true)
			wantAnswers(t, what+", ExecAll", impl.ExecAll(start, []impl.Txn{acts(list...)}), []int64{code}, []int64{0}, failingStore())
			wantAnswers(t, what+", ExecAll, one more", impl.ExecAll(start, []impl.Txn{acts(list...), acts(holds(6, 600))}), []int64{code, 0}, []int64{0, 600}, failingStore())
		}
	}
	wantItems(t, "none fails", impl.ExecTxn(failingStore(), acts(others...)), 1193,
		[]impl.Item{item(2, 20000), item(4, 400), item(6, 7), item(8, 807), item(10, 7), item(12, 1193), item(14, 1400), item(16, 1600)})
}

func checkExecTxn(t *testing.T, list []impl.Item, txn impl.Txn) {
	t.Helper()
	got := impl.ExecTxn(list, txn)
	then, value, code := slotsOf(list).exec(txn)
	what := fmt.Sprint(list, " by ", txn.Acts)
	if code != impl.OK {
		wantItemsCode(t, what, got, code)
		return
	}
	wantItems(t, what, got, value, then.items())
	wantCode(t, what, impl.ItemsFault(got.Items), impl.OK)
}

// overManyTxns tells all transactions of up to three acts out of some, of stores with no, some, one and no more room.
func overManyTxns(tell func(list []impl.Item, txn impl.Txn)) {
	var some []impl.Act
	for _, key := range []int64{4, 5, 20} {
		some = append(some, put(key, 0), put(key, 1000), add(key, 0), add(key, 500), add(key, -1000), remove(key), holds(key, 0), holds(key, 500))
	}
	high, low := withItem(evenItems(8), 1, item(4, 19500)), withItem(evenItems(7), 1, item(4, -19000))
	for _, list := range [][]impl.Item{nil, {item(4, 500)}, {item(5, 0), item(20, 1)}, evenItems(7), high, low} {
		for _, a := range some {
			tell(list, acts(a))
			for _, b := range some {
				tell(list, acts(a, b))
				for _, c := range some {
					tell(list, acts(a, b, c))
				}
			}
		}
	}
}

func TestExecTxnOfManyTransactions(t *testing.T) {
	overManyTxns(func(list []impl.Item, txn impl.Txn) { checkExecTxn(t, list, txn) })
}

func TestExecAllByHand(t *testing.T) {
	wantAnswers(t, "none of nothing", impl.ExecAll(nil, nil), nil, nil, nil)
	wantAnswers(t, "none", impl.ExecAll(evenItems(8), []impl.Txn{}), nil, nil, evenItems(8))
	wantAnswers(t, "three", impl.ExecAll(nil, []impl.Txn{acts(add(1, 4)), acts(holds(1, 5)), acts(add(1, -1))}),
		[]int64{0, impl.ErrAbort, 0}, []int64{4, 0, 3}, []impl.Item{item(1, 3)})
	wantAnswers(t, "all is gone", impl.ExecAll([]impl.Item{item(2, 9)}, []impl.Txn{acts(remove(2)), acts(remove(2))}),
		[]int64{0, impl.ErrNone}, []int64{0, 0}, nil)
	wantAnswers(t, "room that comes", impl.ExecAll(evenItems(8), []impl.Txn{acts(put(1, 1)), acts(remove(2)), acts(put(1, 1)), acts(put(3, 3))}),
		[]int64{impl.ErrFull, 0, 0, impl.ErrFull}, []int64{0, 0, 1, 0}, withItem(evenItems(8), 0, item(1, 1)))
	wantAnswers(t, "a code beside a Value that would be", impl.ExecAll([]impl.Item{item(2, 5)}, []impl.Txn{acts(add(2, 5), remove(3)), acts(holds(2, 5))}),
		[]int64{impl.ErrNone, 0}, []int64{0, 5}, []impl.Item{item(2, 5)})
}

func TestExecAllOf60(t *testing.T) {
	list := slices.Repeat([]impl.Txn{acts(add(1, 1000))}, 61)
	var codes, values []int64
	for i := range int64(60) {
		if i < 20 {
			codes, values = append(codes, impl.OK), append(values, 1000*i+1000)
		} else {
			codes, values = append(codes, impl.ErrRange), append(values, 0)
		}
	}
	wantAnswers(t, "60", impl.ExecAll(nil, list[:60]), codes, values, []impl.Item{item(1, 20000)})
	wantAnswersCode(t, "61", impl.ExecAll(nil, list), impl.ErrMany)
	list[0] = impl.Txn{}
	wantAnswersCode(t, "61, one with a fault", impl.ExecAll(nil, list), impl.ErrMany)
	wantAnswersCode(t, "316", impl.ExecAll(evenItems(8), someTxns(316)), impl.ErrMany)
}

// A fault of one transaction is the answer for all, also behind one that has a code of its own.
func TestExecAllTellsTheTxnFaults(t *testing.T) {
	for _, c := range allTxnCases() {
		if c.code == impl.OK {
			continue
		}
		for _, at := range []int{0, 1, 59} {
			list := slices.Repeat([]impl.Txn{acts(remove(1))}, 60)
			list[at] = c.txn
			wantAnswersCode(t, fmt.Sprint(c.what, " at ", at), impl.ExecAll(evenItems(8), list), c.code)
		}
	}
	none, form := acts(), acts(impl.Act{Kind: 9, Key: 1})
	wantAnswersCode(t, "two faults", impl.ExecAll(nil, []impl.Txn{acts(put(1, 1)), none, form}), impl.ErrMany)
	wantAnswersCode(t, "the other way round", impl.ExecAll(nil, []impl.Txn{acts(put(1, 1)), form, none}), impl.ErrForm)
}

// mixedTxns are always the same ones of a seed: few Keys more than there is room for, so that all codes come up.
func mixedTxns(seed uint32, count int) []impl.Txn {
	next := func(n uint32) int64 {
		seed = seed*1664525 + 1013904223
		return int64((seed >> 8) % n)
	}
	var list []impl.Txn
	for range count {
		txn := txnOf(next(200)+1, next(9)+1, next(99)+1)
		for range next(4) + 1 {
			key := next(10)*2 + 1
			value := []int64{-1000, 0, 1, 1000}[next(4)]
			txn.Acts = append(txn.Acts, []impl.Act{put(key, value), add(key, value), put(key, value), add(key, 1000), remove(key), holds(key, value)}[next(6)])
		}
		list = append(list, txn)
	}
	return list
}

func mixedStores() [][]impl.Item {
	farOut := []impl.Item{item(1, 20000), item(3, 20000), item(7, 20000), item(11, -20000), item(13, 20000), item(19, -20000)}
	return [][]impl.Item{nil, {item(1, 19000), item(3, -19000)}, evenItems(4), evenItems(8), farOut}
}

func TestMixedTxnsMeetEveryCode(t *testing.T) {
	met := map[int64]int{}
	for seed := range uint32(40) {
		for _, list := range mixedStores() {
			for _, code := range impl.ExecAll(list, mixedTxns(seed, 60)).Codes {
				met[code]++
			}
		}
	}
	for _, code := range []int64{impl.OK, impl.ErrRange, impl.ErrNone, impl.ErrAbort, impl.ErrFull} {
		if met[code] < 20 {
			t.Errorf("code %d came up %d times: these transactions try too little", code, met[code])
		}
	}
}

// One by one: ExecTxn of each is ExecAll, and both are what the slots tell.
func TestOneByOneIsTogether(t *testing.T) {
	for seed := range uint32(40) {
		for _, start := range mixedStores() {
			txns := mixedTxns(seed, 60)
			now, model := start, slotsOf(start)
			var codes, values []int64
			for _, txn := range txns {
				checkExecTxn(t, now, txn)
				done := impl.ExecTxn(now, txn)
				codes, values = append(codes, done.Code), append(values, done.Value)
				if done.Code == impl.OK {
					now = done.Items
				}
				model, _, _ = model.exec(txn)
			}
			wantAnswers(t, fmt.Sprint("seed ", seed, " of ", start), impl.ExecAll(start, txns), codes, values, model.items())
		}
	}
}

// In two parts, cut anywhere: the second one begins with the items that the first one tells.
func TestTwoPartsAreTogether(t *testing.T) {
	for seed := range uint32(10) {
		for _, start := range mixedStores() {
			txns := mixedTxns(seed, 60)
			whole := impl.ExecAll(start, txns)
			for cut := range 61 {
				first := impl.ExecAll(start, txns[:cut])
				second := impl.ExecAll(first.Items, txns[cut:])
				wantCode(t, "the first part", first.Code, impl.OK)
				wantAnswers(t, fmt.Sprint("seed ", seed, " of ", start, " cut at ", cut), second, whole.Codes[cut:], whole.Values[cut:], whole.Items)
				if !slices.Equal(first.Codes, whole.Codes[:cut]) || !slices.Equal(first.Values, whole.Values[:cut]) {
					t.Errorf("seed %d of %v cut at %d: the first part is %v, the whole %v", seed, start, cut, first, whole)
				}
			}
		}
	}
}
