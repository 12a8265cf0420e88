package tests

import (
	"fmt"
	"reflect"
	"slices"
	"testing"

	"loop.example/g00631/impl"
)

// Promise 9, of CommonOf and Without: what was guessed right, and what is left of what was guessed.

func wantPlan(t *testing.T, what string, got, want impl.Plan) {
	t.Helper()
	if !reflect.DeepEqual(emptyAsNil(got), emptyAsNil(want)) {
		t.Errorf("%s: got %+v, want %+v", what, got, want)
	}
}

func wantCommon(t *testing.T, what string, a, b []impl.Txn, want int) {
	t.Helper()
	wantInt(t, what, impl.CommonOf(a, b), int64(want))
	wantInt(t, what+", the other way round", impl.CommonOf(b, a), int64(want))
}

// wantListCodes asks all three functions of two lists.
func wantListCodes(t *testing.T, what string, a, b []impl.Txn, code int64) {
	t.Helper()
	wantIntCode(t, "CommonOf "+what, impl.CommonOf(a, b), code)
	wantTxnsCode(t, "Without "+what, impl.Without(a, b), code)
	wantPlan(t, "PlanOf "+what, impl.PlanOf(a, b), impl.Plan{Code: code})
}

// fewFaultyLists have one or more faults of every code.
func fewFaultyLists() []faultyList {
	cases := []faultyList{{"41", ownTxns(1, 41), impl.ErrMany}, {"41 of nothing", make([]impl.Txn, 41), impl.ErrMany}, {"nothing", []impl.Txn{{}}, impl.ErrRange}}
	return append(cases, listSeveralCases()...)
}

func TestTheOthersTellTheListFaultFirst(t *testing.T) {
	right := [][]impl.Txn{nil, ownTxns(1, 1), ownTxns(1, 40), ownTxns(60, 5)}
	for _, c := range allListCases() {
		if c.code == impl.OK {
			continue
		}
		for i, list := range right {
			wantListCodes(t, fmt.Sprint("first ", c.what, ", then right ", i), c.list, list, c.code)
			wantListCodes(t, fmt.Sprint("right ", i, ", then ", c.what), list, c.list, c.code)
		}
		wantListCodes(t, "both "+c.what, c.list, c.list, c.code)
	}
	for _, a := range fewFaultyLists() {
		for _, b := range fewFaultyLists() {
			wantListCodes(t, fmt.Sprint("first ", a.what, ", then ", b.what), a.list, b.list, a.code)
		}
	}
}

// A fault counts behind what is the same, and behind what differs; and ErrMany of the second list waits for all of the first one.
func TestTheFirstListIsAskedWholly(t *testing.T) {
	list := ownTxns(1, 40)
	twice := withTxn(list, 39, list[0])
	wantListCodes(t, "a fault at the end, then 41", twice, ownTxns(1, 41), impl.ErrTaken)
	wantListCodes(t, "41, then a fault", ownTxns(1, 41), twice, impl.ErrMany)
	wantListCodes(t, "a fault behind all of the other one", twice, list[:3], impl.ErrTaken)
	wantListCodes(t, "a fault behind all of the first one", list[:3], twice, impl.ErrTaken)
	wantListCodes(t, "a fault behind a difference", ownTxns(50, 3), append(ownTxns(60, 2), impl.Txn{}), impl.ErrRange)
}

// Nobody is taken across two lists, and each of these may have 40.
func TestTwoListsAreAskedApart(t *testing.T) {
	list := ownTxns(1, 40)
	wantCommon(t, "40 and the same", list, ownTxns(1, 40), 40)
	wantTxns(t, "40 without the same", impl.Without(list, ownTxns(1, 40)))
	wantPlan(t, "40 and the same", impl.PlanOf(list, ownTxns(1, 40)), impl.Plan{Commit: 40})
}

func TestCommonOfBeginnings(t *testing.T) {
	for _, a := range []int{0, 1, 2, 3, 20, 39, 40} {
		for _, b := range []int{0, 1, 2, 3, 20, 39, 40} {
			wantCommon(t, fmt.Sprint(a, " and ", b), ownTxns(1, a), ownTxns(1, b), min(a, b))
		}
	}
	wantCommon(t, "nil and nil", nil, nil, 0)
	wantCommon(t, "nil and empty", nil, []impl.Txn{}, 0)
}

// listTurns change the one at a place, each so that the list has no fault.
func listTurns() []func(txn *impl.Txn) {
	return []func(txn *impl.Txn){
		func(txn *impl.Txn) { txn.Id += 100 },
		func(txn *impl.Txn) { txn.Session = 1 + txn.Session%9 },
		func(txn *impl.Txn) { txn.Seq += 50 },
		func(txn *impl.Txn) { *txn = named(190, 9, 99, 0) },
		func(txn *impl.Txn) { txn.Acts[0].Value-- },
		func(txn *impl.Txn) { txn.Acts[0].Key++ },
		func(txn *impl.Txn) { txn.Acts[0].Kind = impl.ActAdd },
		func(txn *impl.Txn) { txn.Acts = append(txn.Acts, put(1, 1)) },
		func(txn *impl.Txn) { txn.Acts = append(txn.Acts, remove(2), remove(3)) },
	}
}

// What is the same behind a difference is not common: only the first ones are.
func TestCommonOfTellsEveryDifference(t *testing.T) {
	for _, count := range []int{1, 2, 5, 40} {
		for at := range count {
			for i, turn := range listTurns() {
				turned := ownTxns(1, count)
				turn(&turned[at])
				what := fmt.Sprint(count, ", turn ", i, " at ", at)
				wantCommon(t, what, ownTxns(1, count), turned, at)
				wantCommon(t, what+", and more behind it", ownTxns(1, count), append(turned[:count:count], ownTxns(60, min(3, 40-count))...), at)
				wantCommon(t, what+", the end of it", ownTxns(1, count), turned[:at+1], at)
			}
			if at > 0 {
				swapped := ownTxns(1, count)
				swapped[at-1], swapped[at] = swapped[at], swapped[at-1]
				wantCommon(t, fmt.Sprint(count, ", two in another order at ", at), ownTxns(1, count), swapped, at-1)
			}
		}
	}
	wantCommon(t, "one ahead", ownTxns(1, 5), append(ownTxns(60, 1), ownTxns(1, 5)...), 0)
	wantCommon(t, "one gone", ownTxns(1, 5), append(ownTxns(1, 2), ownTxns(4, 2)...), 2)
}

// A last act that differs, of four.
func TestCommonOfTellsEveryAct(t *testing.T) {
	four := func() []impl.Txn { return []impl.Txn{someTxn(1), txnOf(2, 5, 5, someTxn(1).Acts...)} }
	for at := range 4 {
		turned := four()
		turned[1].Acts[at] = put(19, 7)
		wantCommon(t, fmt.Sprint("act ", at), four(), turned, 1)
	}
	wantCommon(t, "none of them", four(), four(), 2)
}

func TestWithoutByHand(t *testing.T) {
	a, b, c, d := named(1, 1, 1, 1), named(2, 1, 2, 2), named(3, 2, 1, 3), named(4, 2, 2, 4)
	list := []impl.Txn{c, a, d, b}
	wantTxns(t, "nothing gone", impl.Without(list, nil), c, a, d, b)
	wantTxns(t, "none of them", impl.Without(list, ownTxns(50, 40)), c, a, d, b)
	wantTxns(t, "the first one", impl.Without(list, []impl.Txn{c}), a, d, b)
	wantTxns(t, "the last one", impl.Without(list, []impl.Txn{b}), c, a, d)
	wantTxns(t, "two in the middle, in another order", impl.Without(list, []impl.Txn{d, a}), c, b)
	wantTxns(t, "the first and the last one", impl.Without(list, []impl.Txn{b, named(9, 9, 9, 9), c}), a, d)
	wantTxns(t, "all", impl.Without(list, []impl.Txn{a, b, c, d}))
	wantTxns(t, "all of one", impl.Without(list[:1], list))
	wantTxns(t, "of nothing", impl.Without(nil, list))
	wantTxns(t, "nothing of nothing", impl.Without(nil, nil))
	wantTxns(t, "by the Id alone", impl.Without(list, []impl.Txn{named(1, 9, 9, 9)}), c, d, b)
	wantTxns(t, "by Session and Seq alone", impl.Without(list, []impl.Txn{named(9, 2, 2, 9)}), c, a, b)
	wantTxns(t, "two by one: the Id of the one, the request of the other", impl.Without(list, []impl.Txn{named(3, 1, 2, 9)}), a, d)
	wantTxns(t, "one by two", impl.Without(list, []impl.Txn{named(1, 9, 9, 9), named(9, 1, 1, 9)}), c, d, b)
	wantTxns(t, "the Session alone", impl.Without(list, []impl.Txn{named(9, 1, 9, 9)}), c, a, d, b)
	wantTxns(t, "the Seq alone", impl.Without(list, []impl.Txn{named(9, 9, 1, 9)}), c, a, d, b)
	wantTxns(t, "the Session of one and the Seq of another", impl.Without(list[:2], []impl.Txn{named(9, 2, 2, 9), named(8, 1, 2, 8)}), c, a)
	wantTxns(t, "other acts", impl.Without(list, []impl.Txn{named(1, 1, 1, 9)}), c, d, b)
}

// withoutByPairs goes from the end on, and deletes; it is for lists without a fault.
func withoutByPairs(list, gone []impl.Txn) []impl.Txn {
	stay := slices.Clone(list)
	for at := len(stay) - 1; at >= 0; at-- {
		for _, other := range gone {
			if standsFor(other, stay[at]) {
				stay = slices.Delete(stay, at, at+1)
				break
			}
		}
	}
	return stay
}

func TestWithoutOneOf40(t *testing.T) {
	list := ownTxns(1, 40)
	for at, txn := range list {
		for _, like := range likenesses() {
			want := list
			if like.names {
				want = append(ownTxns(1, at), ownTxns(int64(at)+2, 39-at)...)
			}
			wantTxns(t, fmt.Sprint(like.what, " of ", at), impl.Without(list, []impl.Txn{like.of(txn)}), want...)
		}
	}
	wantTxns(t, "the first 20", impl.Without(list, ownTxns(1, 20)), ownTxns(21, 20)...)
	wantTxns(t, "the last 20, and 20 others", impl.Without(list, ownTxns(21, 40)), ownTxns(1, 20)...)
}

func TestCommonOfAndWithoutOfFewNames(t *testing.T) {
	lists := fewLists(3)
	for _, a := range lists {
		for _, b := range lists {
			what := fmt.Sprint(a, " and ", b)
			common := 0
			for common < len(a) && impl.IsPrefix(a[:common+1], b) {
				common++
			}
			wantInt(t, what, impl.CommonOf(a, b), int64(common))
			wantTxns(t, what, impl.Without(a, b), withoutByPairs(a, b)...)
		}
	}
}
