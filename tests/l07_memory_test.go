package tests

import (
	"fmt"
	"slices"
	"testing"

	"loop.example/g00631/impl"
)

// Promise 1, of chapter 7.

// manyOrders are right and wrong, with lists that are nil, empty and too long.
func manyOrders() [][]impl.Instance {
	orders := append(rightOrders(), nil, []impl.Instance{}, []impl.Instance{{}}, make([]impl.Instance, 4), make([]impl.Instance, 5), make([]impl.Instance, 300), decidedOrder(0, 5))
	for seed := range 4 {
		orders = append(orders, grownOrder(seed, func([]impl.Instance, impl.OrderResult) {}))
	}
	for _, c := range slices.Concat(orderOpenCases(), orderSeveralCases()) {
		orders = append(orders, c.list)
	}
	for i, x := range manyInstances() {
		orders = append(orders, []impl.Instance{x}, withBoard(decidedOrder(i, 3), i%3, x))
	}
	return orders
}

func TestOrdersLeaveAllElseAlone(t *testing.T) {
	var calls []call
	grown := boardBy(ownTxns(60, 2), "111", "111 111", "111 111", "111 111", "111 111")
	for i, list := range manyOrders() {
		calls = append(calls, call1(fmt.Sprint("OrderFault ", i), impl.OrderFault, list), call1(fmt.Sprint("DecidedIn ", i), impl.DecidedIn, list), call1(fmt.Sprint("NextInstance ", i), impl.NextInstance, list))
		for n := int64(-1); n <= 5; n++ {
			calls = append(calls, call2(fmt.Sprint("DefiniteOf ", i, " the first ", n), impl.DefiniteOf, list, n))
		}
		for j, x := range []impl.Instance{newBoard(), grown, {}, {Rounds: []impl.Round{{}}, Batch: []impl.Txn{}}} {
			calls = append(calls, call2(fmt.Sprint("ChangeLast ", i, " to ", j), impl.ChangeLast, list, x))
		}
		if len(list) > 0 {
			calls = append(calls, call2(fmt.Sprint("ChangeLast ", i, " to itself"), impl.ChangeLast, list, list[len(list)-1]))
		}
		calls = append(calls, call2(fmt.Sprint("SameOrders ", i, " and itself"), impl.SameOrders, list, list), call2(fmt.Sprint("SameOrders ", i, " and another"), impl.SameOrders, list, decidedOrder(0, 4)))
	}
	checkCalls(t, calls)
}

func TestPrefixesLeaveAllElseAlone(t *testing.T) {
	var calls []call
	for i, a := range manyTxnLists() {
		for j, b := range manyTxnLists() {
			calls = append(calls, call2(fmt.Sprint("IsPrefix ", i, " of ", j), impl.IsPrefix, a, b))
		}
	}
	checkCalls(t, calls)
}

// Every number as n: an answer comes, and it is the same the next time.
func TestOrdersAnswerAtEveryNumber(t *testing.T) {
	var calls []call
	for _, n := range manyInts {
		calls = append(calls, call2(fmt.Sprint("DefiniteOf all, ", n), impl.DefiniteOf, decidedOrder(0, 4), n), call2(fmt.Sprint("DefiniteOf a new one, ", n), impl.DefiniteOf, []impl.Instance{newBoard()}, n))
	}
	checkCalls(t, calls)
}

// An order that is answered is the caller's own: what is written to it, or later to the arguments, shows nowhere else.
func TestOrdersAreNewMemory(t *testing.T) {
	grown := func() impl.Instance { return boardBy(ownTxns(11, 4), "111", "110 112", "111 ...") }
	list, x := decidedOrder(3, 3), grown()
	changing := append(list[:2:2], newBoard())
	next, changed, definite := impl.NextInstance(list), impl.ChangeLast(changing, x), impl.DefiniteOf(list, 3)
	otherNext, otherChanged, otherDefinite := impl.NextInstance(list), impl.ChangeLast(changing, x), impl.DefiniteOf(list, 3)
	overwrite(next)
	overwrite(changed)
	overwrite(definite)
	wantSameOrders(t, "the order behind them", list, decidedOrder(3, 3), true)
	wantSameInstances(t, "the board behind them", x, grown(), true)
	overwrite(list)
	overwrite(changing)
	overwrite(x)
	wantOrder(t, "the other next one", otherNext, append(decidedOrder(3, 3), newBoard())...)
	wantOrder(t, "the other change", otherChanged, append(decidedOrder(3, 2), grown())...)
	wantTxns(t, "the other order", otherDefinite, append(ownTxns(11, 4), someTxn(1))...)
	wantOrder(t, "a next one behind them", impl.NextInstance(decidedOrder(0, 1)), append(decidedOrder(0, 1), newBoard())...)
}

// One instance that stands twice in the argument, its lists shared, is two in the answer.
func TestSharedInstancesAreToldApart(t *testing.T) {
	x := takenBoard(ownTxns(1, 2)...)
	list := []impl.Instance{x, x, x}
	checkNewMemory(t, "NextInstance", impl.NextInstance(list), []any{list})
	checkNewMemory(t, "ChangeLast", impl.ChangeLast(list, x), []any{list, x})
	checkNewMemory(t, "DefiniteOf", impl.DefiniteOf(list, 3), []any{list})
	shared := ownTxns(1, 2)
	shared[1].Acts = shared[0].Acts
	checkNewMemory(t, "DefiniteOf acts that are shared", impl.DefiniteOf(inBatches(shared), 1), []any{shared})
}

// What stands behind a length is none of it, and stays.
func TestOrdersStopAtTheLength(t *testing.T) {
	whole := decidedOrder(0, 5)
	wantCode(t, "all of it", impl.OrderFault(whole), impl.ErrMany)
	wantCode(t, "four of five", impl.OrderFault(whole[:4]), impl.OK)
	wantCode(t, "none of five", impl.OrderFault(whole[:0]), impl.ErrMany)
	wantInt(t, "two of five", impl.DecidedIn(whole[:2]), 2)
	wantTxnsCode(t, "more than two of five", impl.DefiniteOf(whole[:2], 3), impl.ErrRange)
	wantOrder(t, "next behind two of five", impl.NextInstance(whole[:2]), append(decidedOrder(0, 2), newBoard())...)
	wantOrder(t, "the second one of five changed", impl.ChangeLast(whole[:2], whole[1]), decidedOrder(0, 2)...)
	wantSameOrders(t, "all of it then", whole, decidedOrder(0, 5), true)
	wantBool(t, "two of three are no beginning of one of three", impl.IsPrefix(someTxns(3)[:2], someTxns(3)[:1]), false)
}
