package tests

import (
	"fmt"
	"math"
	"reflect"
	"slices"
	"testing"

	"loop.example/g00631/impl"
)

// Promise 8: the order of fewer outcomes is a beginning of that of more, and each one is in it once; a board that only grows leaves the order that was as the beginning of what is. Here: which orders are right, how many have an outcome, the next instance, and which orders are the same.

func wantOrder(t *testing.T, what string, got impl.OrderResult, want ...impl.Instance) {
	t.Helper()
	if !reflect.DeepEqual(emptyAsNil(got), emptyAsNil(impl.OrderResult{Order: want})) {
		t.Errorf("%s: got %+v, want %+v", what, got, want)
	}
}

func wantOrderCode(t *testing.T, what string, got impl.OrderResult, code int64) {
	t.Helper()
	if got.Code != code || len(got.Order) != 0 {
		t.Errorf("%s: got %+v, want code %d and nothing else", what, got, code)
	}
}

// named has one act, by whose Value it is told from others of its names.
func named(id, session, seq, value int64) impl.Txn { return txnOf(id, session, seq, put(1, value)) }

// ownTxns are of no names in common with those of another from.
func ownTxns(from int64, count int) []impl.Txn {
	var list []impl.Txn
	for id := from; id < from+int64(count); id++ {
		list = append(list, named(id, 1+id%9, 1+id%99, id))
	}
	return list
}

func takenBoard(batch ...impl.Txn) impl.Instance   { return boardBy(batch, ".1.", "110 112", ".1. ...") }
func refusedBoard(batch ...impl.Txn) impl.Instance { return boardBy(batch, "0.0", "000 00.") }
func openBoard(batch ...impl.Txn) impl.Instance    { return boardBy(batch, "...", "00. 00.") }

// decidedBoards have an outcome, each one in its own way.
func decidedBoards() []impl.Instance {
	return []impl.Instance{
		takenBoard(ownTxns(1, 1)...), refusedBoard(), refusedBoard(ownTxns(5, 2)...), takenBoard(ownTxns(11, 4)...), fullBoard(),
		boardBy(ownTxns(21, 1), "..0", "010 020", "00. 00.", "... ..."), boardBy(nil, "000", "000 000", "000 000", "000 000", "000 000"),
	}
}

// openBoards have none.
func openBoards() []impl.Instance {
	return []impl.Instance{newBoard(), openBoard(), openBoard(ownTxns(31, 3)...), boardBy(ownTxns(41, 4), "...", "111 111", "111 111", "111 111", "111 111")}
}

// decidedOrder has count instances, from the at-th one of decidedBoards on.
func decidedOrder(at, count int) []impl.Instance {
	boards := decidedBoards()
	var list []impl.Instance
	for i := range count {
		list = append(list, boards[(at+i)%len(boards)])
	}
	return list
}

func withBoard(list []impl.Instance, at int, x impl.Instance) []impl.Instance {
	list = slices.Clone(list)
	list[at] = x
	return list
}

// rightOrders are of every length, with every board as the last one.
func rightOrders() [][]impl.Instance {
	var orders [][]impl.Instance
	for count := range 4 {
		for at, last := range slices.Concat(decidedBoards(), openBoards()) {
			orders = append(orders, append(decidedOrder(at, count), last))
		}
	}
	return orders
}

// wrongBoards have a fault of every kind, and some have no outcome either.
func wrongBoards() []faultyInstance {
	var list []faultyInstance
	for _, c := range slices.Concat(batchCases(), roundCountCases(), saidCases()) {
		if c.code != impl.OK {
			list = append(list, c)
		}
	}
	for _, turns := range faultTurns() {
		for _, turn := range turns {
			x := fullBoard()
			turn.turn(&x)
			list = append(list, faultyInstance{turn.what, x, turn.code})
		}
	}
	return list
}

type faultyOrder struct {
	what string
	list []impl.Instance
	code int64
}

func orderCountCases() []faultyOrder {
	cases := []faultyOrder{{"nil", nil, impl.ErrMany}, {"an empty list", []impl.Instance{}, impl.ErrMany}}
	for _, count := range []int{1, 2, 3, 4, 5, 6, 256 + 1, 256 + 4} {
		code := int64(impl.OK)
		if count > 4 {
			code = impl.ErrMany
		}
		cases = append(cases, faultyOrder{fmt.Sprint(count, " decided"), decidedOrder(0, count), code})
		cases = append(cases, faultyOrder{fmt.Sprint(count, ", the last one open"), append(decidedOrder(0, count-1), newBoard()), code})
	}
	for _, count := range []int{5, 6, 300} {
		cases = append(cases, faultyOrder{fmt.Sprint(count, " of nothing"), make([]impl.Instance, count), impl.ErrMany})
		cases = append(cases, faultyOrder{fmt.Sprint(count, " open"), slices.Repeat([]impl.Instance{newBoard()}, count), impl.ErrMany})
	}
	return cases
}

// orderFaultCases have one fault each, at every place.
func orderFaultCases() []faultyOrder {
	var cases []faultyOrder
	for count := 1; count <= 4; count++ {
		for at := range count {
			for _, c := range wrongBoards() {
				cases = append(cases, faultyOrder{fmt.Sprint(c.what, " at ", at, " of ", count), withBoard(decidedOrder(at, count), at, c.x), c.code})
			}
		}
	}
	return cases
}

func orderOpenCases() []faultyOrder {
	var cases []faultyOrder
	for count := 1; count <= 4; count++ {
		for at := range count {
			for i, x := range openBoards() {
				code := int64(impl.ErrState)
				if at == count-1 {
					code = impl.OK
				}
				cases = append(cases, faultyOrder{fmt.Sprint("open ", i, " at ", at, " of ", count), withBoard(decidedOrder(i, count), at, x), code})
			}
		}
	}
	return cases
}

// orderSeveralCases have two faults each; that of the one ahead is told, whatever it is.
func orderSeveralCases() []faultyOrder {
	form, many, vote := newBoard(), boardBy(nil, "..", "... ..."), boardBy(nil, "...", "1.. ...")
	form.Batch = someTxns(1)
	wrong := []faultyInstance{{"form", form, impl.ErrForm}, {"many", many, impl.ErrMany}, {"vote", vote, impl.ErrVote}, {"nothing", impl.Instance{}, impl.ErrMany}, {"open", newBoard(), impl.ErrState}}
	var cases []faultyOrder
	for first := range 3 {
		for second := first + 1; second < 4; second++ {
			for _, a := range wrong {
				for _, b := range wrong {
					list := withBoard(withBoard(decidedOrder(0, 4), first, a.x), second, b.x)
					cases = append(cases, faultyOrder{fmt.Sprint(a.what, " at ", first, ", ", b.what, " at ", second), list, a.code})
				}
			}
		}
	}
	for _, a := range wrong {
		list := slices.Repeat([]impl.Instance{a.x}, 5)
		cases = append(cases, faultyOrder{"four times " + a.what, list[:4], a.code}, faultyOrder{"five times " + a.what, list, impl.ErrMany})
	}
	return cases
}

func allOrderCases() []faultyOrder {
	var cases []faultyOrder
	for i, list := range rightOrders() {
		cases = append(cases, faultyOrder{fmt.Sprint("right order ", i), list, impl.OK})
	}
	return slices.Concat(cases, orderCountCases(), orderFaultCases(), orderOpenCases(), orderSeveralCases())
}

func TestOrderConstants(t *testing.T) {
	if impl.MaxInstances != 4 {
		t.Errorf("MaxInstances is %d", impl.MaxInstances)
	}
}

func TestOrderFault(t *testing.T) {
	for _, c := range allOrderCases() {
		wantCode(t, c.what, impl.OrderFault(c.list), c.code)
	}
}

// The OrderFault is told ahead of all else, whatever the other argument is.
func TestTheOthersTellTheOrderFaultFirst(t *testing.T) {
	others := []impl.Instance{newBoard(), fullBoard(), {}, boardBy(nil, "...", "1.. ...")}
	for _, c := range allOrderCases() {
		if c.code == impl.OK {
			continue
		}
		wantIntCode(t, c.what+": decided", impl.DecidedIn(c.list), c.code)
		wantOrderCode(t, c.what+": next", impl.NextInstance(c.list), c.code)
		for _, n := range []int64{-1, 0, 1, 4, 5, math.MaxInt64} {
			wantTxnsCode(t, fmt.Sprint(c.what, ": definite of ", n), impl.DefiniteOf(c.list, n), c.code)
		}
		for i, x := range others {
			wantOrderCode(t, fmt.Sprint(c.what, ": changed to ", i), impl.ChangeLast(c.list, x), c.code)
		}
	}
}

func TestDecidedIn(t *testing.T) {
	for count := range 4 {
		for at := range decidedBoards() {
			what := fmt.Sprint(count, " from ", at)
			wantInt(t, what+" and one decided", impl.DecidedIn(decidedOrder(at, count+1)), int64(count+1))
			for i, x := range openBoards() {
				wantInt(t, fmt.Sprint(what, " and open ", i), impl.DecidedIn(append(decidedOrder(at, count), x)), int64(count))
			}
		}
	}
	wantInt(t, "an outcome of 0", impl.DecidedIn([]impl.Instance{refusedBoard()}), 1)
	wantInt(t, "agreed, and not decided", impl.DecidedIn([]impl.Instance{boardBy(someTxns(1), "...", "111 111")}), 0)
}

func TestNextInstance(t *testing.T) {
	for count := 1; count <= 4; count++ {
		for at := range decidedBoards() {
			list := decidedOrder(at, count)
			what := fmt.Sprint(count, " from ", at)
			if count < 4 {
				next := impl.NextInstance(list)
				wantOrder(t, what, next, append(decidedOrder(at, count), newBoard())...)
				wantCode(t, what+": the order then", impl.OrderFault(next.Order), impl.OK)
				wantOrderCode(t, what+": again", impl.NextInstance(next.Order), impl.ErrState)
			} else {
				wantOrderCode(t, what, impl.NextInstance(list), impl.ErrFull)
			}
			for i, x := range openBoards() {
				wantOrderCode(t, fmt.Sprint(what, ", open ", i, " as the last one"), impl.NextInstance(withBoard(list, count-1, x)), impl.ErrState)
			}
		}
	}
}

func wantSameOrders(t *testing.T, what string, a, b []impl.Instance, want bool) {
	t.Helper()
	if impl.SameOrders(a, b) != want || impl.SameOrders(b, a) != want {
		t.Errorf("%s: SameOrders is not %v", what, want)
	}
}

// One place of one instance of three makes another order.
func TestSameOrdersTellsEveryDifference(t *testing.T) {
	three := []impl.Instance{fullBoard(), fullBoard(), fullBoard()}
	variants := [][]impl.Instance{three, nil, three[:1], three[:2], append(slices.Clone(three), fullBoard()), {fullBoard(), newBoard()}, {newBoard(), fullBoard()}}
	for at := range three {
		for _, turn := range instanceTurns() {
			x := fullBoard()
			turn(&x)
			variants = append(variants, withBoard(three, at, x))
		}
		full := fullBoard()
		for i := range votePlaces(&full) {
			x := fullBoard()
			*votePlaces(&x)[i].vote = 4
			variants = append(variants, withBoard(three, at, x))
		}
	}
	for i, a := range variants {
		for j, b := range variants {
			wantSameOrders(t, fmt.Sprint(i, " and ", j), a, copied(b).([]impl.Instance), i == j)
		}
	}
}

// SameOrders has no code: what has a fault is the same or not as well, and nil is empty wherever it stands.
func TestSameOrdersOfFaultyAndEmptyOnes(t *testing.T) {
	for _, c := range allOrderCases() {
		wantSameOrders(t, c.what, c.list, copied(c.list).([]impl.Instance), true)
		wantSameOrders(t, c.what+", nil for empty", c.list, swapEmpty(c.list), true)
	}
	wantSameOrders(t, "nothing", nil, []impl.Instance{}, true)
	wantSameOrders(t, "one of nothing", nil, []impl.Instance{{}}, false)
	wantSameOrders(t, "empty lists inside", []impl.Instance{{}}, []impl.Instance{{Batch: []impl.Txn{}, Rounds: []impl.Round{}, Decided: []int64{}}}, true)
}

// prefixTurns change one place of four transactions each.
func prefixTurns() []func(list []impl.Txn) {
	var turns []func(list []impl.Txn)
	for at := range 4 {
		turns = append(turns,
			func(list []impl.Txn) { list[at].Id += 100 },
			func(list []impl.Txn) { list[at].Session++ },
			func(list []impl.Txn) { list[at].Seq++ },
			func(list []impl.Txn) { list[at].Acts = nil },
			func(list []impl.Txn) { list[at].Acts = list[at].Acts[:3] },
			func(list []impl.Txn) { list[at].Acts = append(list[at].Acts, put(1, 1)) },
			func(list []impl.Txn) { list[at].Acts[0].Kind++ },
			func(list []impl.Txn) { list[at].Acts[1].Key-- },
			func(list []impl.Txn) { list[at].Acts[3].Value++ },
			func(list []impl.Txn) { list[at], list[(at+1)%4] = list[(at+1)%4], list[at] })
	}
	return turns
}

func TestIsPrefixOfEveryLength(t *testing.T) {
	for a := range 6 {
		for b := range 6 {
			wantBool(t, fmt.Sprint(a, " of ", b), impl.IsPrefix(someTxns(a), someTxns(b)), a <= b)
		}
	}
	wantBool(t, "nil of nil", impl.IsPrefix(nil, nil), true)
	wantBool(t, "empty of nil", impl.IsPrefix([]impl.Txn{}, nil), true)
	wantBool(t, "nil of empty", impl.IsPrefix(nil, []impl.Txn{}), true)
	wantBool(t, "many", impl.IsPrefix(someTxns(300), someTxns(301)), true)
	wantBool(t, "the end of it", impl.IsPrefix(someTxns(4)[1:], someTxns(4)), false)
	wantBool(t, "faulty ones", impl.IsPrefix([]impl.Txn{{}, {}}, make([]impl.Txn, 3)), true)
	wantBool(t, "nil acts and empty ones", impl.IsPrefix([]impl.Txn{{}}, []impl.Txn{{Acts: []impl.Act{}}}), true)
	wantBool(t, "one of nothing", impl.IsPrefix([]impl.Txn{{}}, nil), false)
}

// What differs in one place is a beginning neither of the same length nor of a greater one, unless that place is behind it.
func TestIsPrefixTellsEveryDifference(t *testing.T) {
	for i, turn := range prefixTurns() {
		turned := someTxns(4)
		turn(turned)
		for count := 1; count <= 4; count++ {
			isSame := reflect.DeepEqual(emptyAsNil(turned[:count]), emptyAsNil(someTxns(count)))
			what := fmt.Sprint("turn ", i, ", the first ", count)
			wantBool(t, what+" of those that were", impl.IsPrefix(turned[:count], someTxns(5)), isSame)
			wantBool(t, what+" of those that are", impl.IsPrefix(someTxns(count), append(slices.Clone(turned), someTxn(5))), isSame)
		}
	}
}
