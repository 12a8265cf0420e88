package tests

import (
	"fmt"
	"math"
	"testing"

	"loop.example/g00631/impl"
)

// Promise 1, of chapter 6.

// manyInstances are right and wrong, with lists that are nil, empty and too long.
func manyInstances() []impl.Instance {
	all := append(rightBoards(), drawnBoards(6)...)
	for _, turns := range faultTurns() {
		for _, turn := range turns {
			x := fullBoard()
			turn.turn(&x)
			all = append(all, x)
		}
	}
	far := boardBy(someTxns(1), "...", "... ...")
	far.Decided, far.Rounds[0].Reports = []int64{math.MinInt64, 0, math.MaxInt64}, make([]int64, 300)
	return append(all, far, impl.Instance{}, impl.Instance{Batch: []impl.Txn{}, Rounds: []impl.Round{}, Decided: []int64{}},
		impl.Instance{Has: true, Batch: []impl.Txn{{}, {Acts: []impl.Act{}}}, Rounds: make([]impl.Round, 2)},
		impl.Instance{Rounds: []impl.Round{{Reports: []int64{}}}}, impl.Instance{Batch: someTxns(300), Rounds: make([]impl.Round, 300)})
}

func callsAt(i int, x impl.Instance) []call {
	calls := []call{call1(fmt.Sprint("InstanceFault ", i), impl.InstanceFault, x), call1(fmt.Sprint("OutcomeOf ", i), impl.OutcomeOf, x)}
	for j, batch := range manyTxnLists() {
		calls = append(calls, call2(fmt.Sprint("SetBatch ", i, " of ", j), impl.SetBatch, x, batch))
	}
	for _, node := range []int64{-1, 0, 1, 2, 3} {
		for _, value := range []int64{-1, 0, 1, 2} {
			calls = append(calls, call3(fmt.Sprint("FirstReport ", i, " by ", node, " of ", value), impl.FirstReport, x, node, value))
		}
		for _, round := range []int64{-1, 0, 1, 3, 4} {
			for _, mask := range []int64{3, 6, 8} {
				what := fmt.Sprint(i, " by ", node, " in ", round, " with ", mask)
				calls = append(calls, call4("Propose "+what, impl.Propose, x, node, round, mask), call5("GoOn "+what, impl.GoOn, x, node, round, mask, 1))
			}
		}
	}
	return calls
}

func TestInstancesLeaveAllElseAlone(t *testing.T) {
	calls := []call{call0("NewInstance", impl.NewInstance)}
	for i, x := range manyInstances() {
		calls = append(calls, callsAt(i, x)...)
		calls = append(calls, call2(fmt.Sprint("SameInstances ", i, " and the full one"), impl.SameInstances, x, fullBoard()))
		calls = append(calls, call2(fmt.Sprint("SameInstances ", i, " and itself"), impl.SameInstances, x, x))
	}
	checkCalls(t, append(calls, call0("NewInstance again", impl.NewInstance)))
}

// Every number as every argument that is one: an answer comes, and it is the same the next time.
func TestInstancesAnswerAtEveryNumber(t *testing.T) {
	var calls []call
	x := fullBoard()
	for _, n := range manyInts {
		calls = append(calls,
			call3(fmt.Sprint("FirstReport by ", n), impl.FirstReport, newBoard(), n, 0), call3(fmt.Sprint("FirstReport of ", n), impl.FirstReport, newBoard(), 0, n),
			call4(fmt.Sprint("Propose by ", n), impl.Propose, x, n, 3, 3), call4(fmt.Sprint("Propose in ", n), impl.Propose, x, 2, n, 3),
			call4(fmt.Sprint("Propose with ", n), impl.Propose, boardBy(nil, "...", "000 ..."), 2, 0, n),
			call5(fmt.Sprint("GoOn by ", n), impl.GoOn, x, n, 3, 3, 0), call5(fmt.Sprint("GoOn in ", n), impl.GoOn, x, 2, n, 3, 0),
			call5(fmt.Sprint("GoOn with ", n), impl.GoOn, x, 2, 3, n, 0), call5(fmt.Sprint("GoOn with the coin ", n), impl.GoOn, x, 2, 2, 3, n))
	}
	checkCalls(t, calls)
}

// A board that is answered is the caller's own: what is written to it, or later to the argument, shows nowhere else.
func TestBoardsAreNewMemory(t *testing.T) {
	x, batch := fullBoard(), someTxns(4)
	young := boardBy(nil, "...", "00. 00.", "0.. ...")
	answers := map[string]func() impl.InstanceResult{
		"NewInstance": impl.NewInstance,
		"SetBatch":    func() impl.InstanceResult { return impl.SetBatch(young, batch) },
		"FirstReport": func() impl.InstanceResult { return impl.FirstReport(young, 2, 0) },
		"Propose":     func() impl.InstanceResult { return impl.Propose(boardBy(batch, "...", "111 ..."), 2, 0, 7) },
		"GoOn":        func() impl.InstanceResult { return impl.GoOn(x, 2, 3, 3, 0) },
		"next round":  func() impl.InstanceResult { return impl.GoOn(young, 1, 0, 3, 0) },
	}
	for what, answer := range answers {
		first, second := answer(), answer()
		want := copied(second).(impl.InstanceResult)
		overwrite(first)
		wantResult(t, what+": the other answer", second, want)
		wantResult(t, what+": the next one", answer(), want)
	}
	wantSameInstances(t, "the board", x, fullBoard(), true)
	wantSameInstances(t, "the young board", young, boardBy(nil, "...", "00. 00.", "0.. ..."), true)
	wantSame(t, "the batch", batch, someTxns(4), true)
	set, on := impl.SetBatch(young, batch), impl.GoOn(x, 2, 3, 3, 0)
	overwrite(batch)
	overwrite(young)
	overwrite(x)
	wantBoard(t, "a batch that was written over later", set, boardBy(someTxns(4), "...", "00. 00.", "0.. ..."))
	wantResult(t, "a board that was written over later", on, gone(true, false, 1, boardBy(someTxns(4), "111", "110 122", "101 122", "110 222", "011 112")))
}

// What stands behind a length is none of it.
func TestInstancesStopAtTheLength(t *testing.T) {
	x := boardBy(someTxns(5), "...", "01. 22.", "01. 22.", "01. 22.", "01. 22.", "01. 22.")
	wantCode(t, "all of it", impl.InstanceFault(x), impl.ErrMany)
	x.Batch, x.Rounds = x.Batch[:4], x.Rounds[:4]
	wantCode(t, "four of each", impl.InstanceFault(x), impl.OK)
	x.Rounds = x.Rounds[:1]
	wantResult(t, "a next round that stands behind the length", impl.GoOn(x, 0, 0, 3, 1), gone(false, true, 1, boardBy(someTxns(4), "...", "01. 22.", "1.. ...")))
	wantBoard(t, "five cut to four", impl.SetBatch(newBoard(), someTxns(5)[:4]), boardBy(someTxns(4), "...", "... ..."))
	wantBoardCode(t, "five cut to none", impl.SetBatch(newBoard(), someTxns(5)[:0]), impl.ErrMany)
	y := newBoard()
	y.Decided = rowBy("....")[:3]
	wantCode(t, "four decided cut to three", impl.InstanceFault(y), impl.OK)
	y.Decided = rowBy("...")[:2]
	wantCode(t, "three decided cut to two", impl.InstanceFault(y), impl.ErrMany)
}
