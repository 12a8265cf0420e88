package tests

import (
	"fmt"
	"testing"

	"loop.example/g00631/impl"
)

// Promise 1, of chapter 8.

// manyPlanLists are right and wrong, with lists that are nil, empty and too long.
func manyPlanLists() [][]impl.Txn {
	lists := append(manyTxnLists(), ownTxns(1, 1), ownTxns(1, 3), ownTxns(1, 8), ownTxns(3, 4), ownTxns(1, 40), ownTxns(1, 41), []impl.Txn{someTxn(2), named(9, 9, 9, 9)})
	lists = append(lists, append(ownTxns(1, 2), ownTxns(4, 3)...), append(ownTxns(1, 2), named(180, 4, 4, 7)), append(ownTxns(1, 3), ownTxns(2, 1)...))
	d := drawn(3)
	for range 4 {
		lists = append(lists, d.list(12))
	}
	return lists
}

func TestPlansLeaveAllElseAlone(t *testing.T) {
	var calls []call
	for i, a := range manyPlanLists() {
		calls = append(calls, call1(fmt.Sprint("ListFault ", i), impl.ListFault, a))
		for j, b := range manyPlanLists() {
			what := fmt.Sprint(i, " and ", j)
			calls = append(calls, call2("PlanOf "+what, impl.PlanOf, a, b), call2("Without "+what, impl.Without, a, b), call2("CommonOf "+what, impl.CommonOf, a, b))
		}
		for j, txn := range manyTxns() {
			if (i+j)%4 == 0 {
				calls = append(calls, call2(fmt.Sprint("HasTxn ", i, " of ", j), impl.HasTxn, a, txn))
			}
		}
	}
	checkCalls(t, calls)
}

// Every number as a name: an answer comes, and it is the same the next time.
func TestPlansAnswerAtEveryNumber(t *testing.T) {
	var calls []call
	for _, n := range manyInts {
		for i, txn := range []impl.Txn{named(n, 1, 1, 0), named(1, n, 1, 0), named(1, 1, n, 0), named(n, n, n, n), {Id: n}} {
			what := fmt.Sprint(n, " as ", i)
			calls = append(calls, call1("ListFault "+what, impl.ListFault, []impl.Txn{txn, txn}), call2("HasTxn "+what, impl.HasTxn, []impl.Txn{txn}, txn),
				call2("PlanOf "+what, impl.PlanOf, []impl.Txn{txn}, ownTxns(1, 1)), call2("PlanOf, the other way round, "+what, impl.PlanOf, ownTxns(1, 1), []impl.Txn{txn}),
				call2("Without "+what, impl.Without, ownTxns(1, 3), []impl.Txn{txn}), call2("CommonOf "+what, impl.CommonOf, []impl.Txn{txn}, []impl.Txn{txn}))
		}
	}
	checkCalls(t, calls)
}

// What is answered is the caller's own: what is written to it, or later to the arguments, shows nowhere else.
func TestPlansAreNewMemory(t *testing.T) {
	tent, fresh := ownTxns(1, 5), append(ownTxns(1, 2), ownTxns(5, 3)...)
	wrong, otherWrong := impl.PlanOf(tent, fresh), impl.PlanOf(tent, fresh)
	right, otherRight := impl.PlanOf(tent, fresh[:2]), impl.PlanOf(tent, fresh[:2])
	stay, otherStay := impl.Without(tent, fresh), impl.Without(tent, fresh)
	overwrite(wrong)
	overwrite(right)
	overwrite(stay)
	wantSame(t, "tent behind them", tent, ownTxns(1, 5), true)
	wantSame(t, "fresh behind them", fresh, append(ownTxns(1, 2), ownTxns(5, 3)...), true)
	overwrite(tent)
	overwrite(fresh)
	wantPlan(t, "the other wrong guess", otherWrong, plan(2, 3, ownTxns(5, 3), ownTxns(3, 2)))
	wantPlan(t, "the other right guess", otherRight, plan(2, 0, nil, ownTxns(3, 3)))
	wantTxns(t, "the others that stay", otherStay, ownTxns(3, 2)...)
}

// One list as both arguments, pieces of it, and acts that are shared: all of it is told apart in the answer.
func TestSharedListsAreToldApart(t *testing.T) {
	list := ownTxns(1, 6)
	checkNewMemory(t, "PlanOf a list and its beginning", impl.PlanOf(list, list[:2]), []any{list})
	checkNewMemory(t, "PlanOf a list and its end", impl.PlanOf(list, list[2:]), []any{list})
	checkNewMemory(t, "PlanOf a beginning and its list", impl.PlanOf(list[:2], list), []any{list})
	checkNewMemory(t, "Without its end", impl.Without(list, list[3:]), []any{list})
	checkNewMemory(t, "Without nothing", impl.Without(list, nil), []any{list})
	wantPlan(t, "a list and itself", impl.PlanOf(list, list), plan(6, 0, nil, nil))
	wantPlan(t, "a list and its end", impl.PlanOf(list, list[4:]), plan(0, 6, ownTxns(5, 2), ownTxns(1, 4)))
	wantTxns(t, "a list without itself", impl.Without(list, list))
	shared := ownTxns(1, 4)
	for at := range shared {
		shared[at].Acts = shared[0].Acts
	}
	other := []impl.Txn{txnOf(9, 9, 9, shared[0].Acts...), txnOf(8, 8, 8, shared[0].Acts...)}
	checkNewMemory(t, "PlanOf acts that are shared", impl.PlanOf(shared, other), []any{shared, other})
	checkNewMemory(t, "PlanOf acts that are shared, all guessed", impl.PlanOf(shared, shared[:1]), []any{shared})
	checkNewMemory(t, "Without of acts that are shared", impl.Without(shared, other), []any{shared, other})
}

// What stands behind a length is none of it, and stays.
func TestPlansStopAtTheLength(t *testing.T) {
	whole := ownTxns(1, 41)
	wantCode(t, "40 of 41", impl.ListFault(whole[:40]), impl.OK)
	wantCode(t, "ahead of one that stands twice", impl.ListFault(append(ownTxns(1, 2), ownTxns(1, 2)...)[:2]), impl.OK)
	wantBool(t, "one behind the length", impl.HasTxn(whole[:3], whole[3]), false)
	wantInt(t, "two of it and three of it", impl.CommonOf(whole[:2], whole[:3]), 2)
	wantTxns(t, "three of it without two of it", impl.Without(whole[:3], whole[:2]), ownTxns(3, 1)...)
	wantPlan(t, "three of it and two of it", impl.PlanOf(whole[:3], whole[:2]), plan(2, 0, nil, ownTxns(3, 1)))
	wantPlan(t, "two of it and three of it", impl.PlanOf(whole[:2], whole[:3]), plan(2, 0, ownTxns(3, 1), nil))
	wantSame(t, "all of it then", whole, ownTxns(1, 41), true)
}
