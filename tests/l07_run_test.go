package tests

import (
	"fmt"
	"testing"

	"loop.example/g00631/impl"
)

// Promise 8, of whole runs: an order that grows step by step.

// batch draws transactions of so few names that many stand for others.
func (d *drawn) batch() []impl.Txn {
	var list []impl.Txn
	ids := map[int64]bool{}
	for range 1 + d.below(4) {
		txn := named(int64(1+d.below(6)), int64(1+d.below(2)), int64(1+d.below(3)), int64(d.below(1000)))
		if !ids[txn.Id] {
			ids[txn.Id] = true
			list = append(list, txn)
		}
	}
	return list
}

// step draws one step of an order: a next instance, a move on the last board (none, where it has a code), or a new board instead of it.
func (d *drawn) step(list []impl.Instance) impl.OrderResult {
	last := list[len(list)-1]
	switch d.below(12) {
	case 0:
		return impl.NextInstance(list)
	case 1:
		return impl.ChangeLast(list, impl.NewInstance().Instance)
	}
	// A batch that comes late is mostly refused.
	made := impl.SetBatch(last, d.batch())
	if last.Has || d.below(3) == 0 {
		made = d.moveOn(last).made(last)
	}
	if made.Code != impl.OK {
		return impl.ChangeLast(list, last)
	}
	return impl.ChangeLast(list, made.Instance)
}

// wantGrown: behind a step the order that was is a beginning of what is, and each one is in it once.
func wantGrown(t *testing.T, what string, before, after []impl.Instance) {
	t.Helper()
	wantCode(t, what, impl.OrderFault(after), impl.OK)
	wasDecided, isDecided := impl.DecidedIn(before).Value, impl.DecidedIn(after).Value
	if isDecided < wasDecided || len(after) < len(before) {
		t.Errorf("%s: %d of %d decided, then %d of %d", what, wasDecided, len(before), isDecided, len(after))
	}
	for n := range wasDecided + 1 {
		was := impl.DefiniteOf(before, n)
		wantTxns(t, fmt.Sprint(what, ", the first ", n), impl.DefiniteOf(after, n), was.Txns...)
		if !impl.IsPrefix(was.Txns, impl.DefiniteOf(after, isDecided).Txns) {
			t.Errorf("%s: the first %d are no beginning", what, n)
		}
	}
	wantOnceEach(t, what, impl.DefiniteOf(after, isDecided).Txns)
	for at := range before[:len(before)-1] {
		wantSameInstances(t, fmt.Sprint(what, ", the instance ", at), before[at], after[at], true)
	}
}

// grownOrder tells each step to see, and ends with what came of it.
func grownOrder(seed int, see func(before []impl.Instance, step impl.OrderResult)) []impl.Instance {
	d := drawn(seed)
	list := []impl.Instance{impl.NewInstance().Instance}
	for range 500 {
		step := d.step(list)
		see(list, step)
		if step.Code == impl.OK {
			list = step.Order
		}
	}
	return list
}

func TestOrdersThatGrow(t *testing.T) {
	ends, leftOut, lost, full := map[int64]int{}, 0, 0, 0
	for seed := range 50 {
		list := grownOrder(seed, func(before []impl.Instance, step impl.OrderResult) {
			switch step.Code {
			case impl.OK:
				wantGrown(t, fmt.Sprint("run ", seed), before, step.Order)
			case impl.ErrState:
				lost++
			case impl.ErrFull:
				full++
			}
		})
		wantDefinite(t, fmt.Sprint("the end of run ", seed), list)
		decided, offered := impl.DecidedIn(list).Value, 0
		for _, x := range list[:decided] {
			if impl.OutcomeOf(x).Value == 1 {
				offered += len(x.Batch)
			}
		}
		ends[decided]++
		leftOut += offered - len(impl.DefiniteOf(list, decided).Txns)
	}
	if ends[4] < 15 || leftOut < 40 || lost < 50 || full < 50 {
		t.Errorf("too few: ends %v, %d left out, %d times ErrState, %d times ErrFull", ends, leftOut, lost, full)
	}
}

// One instance is driven to its end as three nodes that hear each other do, and then the next one.
func TestAnOrderStepByStep(t *testing.T) {
	a := named(1, 1, 1, 5)
	x := impl.SetBatch(impl.NewInstance().Instance, []impl.Txn{a}).Instance
	for node := range int64(3) {
		x = impl.FirstReport(x, node, 1).Instance
	}
	for node := range int64(3) {
		x = impl.Propose(x, node, 0, 7).Instance
	}
	wantInt(t, "ahead of the end", impl.DecidedIn([]impl.Instance{x}), 0)
	for node := range int64(3) {
		x = impl.GoOn(x, node, 0, 7, 1).Instance
	}
	list := []impl.Instance{x}
	next := impl.NextInstance(list)
	wantInt(t, "at the end", impl.DecidedIn(list), 1)
	wantTxns(t, "the first one", impl.DefiniteOf(list, 1), a)
	wantTxns(t, "none", impl.DefiniteOf(list, 0))
	wantTxnsCode(t, "two", impl.DefiniteOf(list, 2), impl.ErrRange)
	wantOrder(t, "the next one", next, x, newBoard())
	wantOrderCode(t, "one behind that", impl.NextInstance(next.Order), impl.ErrState)
	wantCode(t, "the order then", impl.OrderFault(next.Order), impl.OK)
	again := impl.ChangeLast(next.Order, impl.SetBatch(next.Order[1], []impl.Txn{a}).Instance)
	wantOrder(t, "the same batch again", again, x, boardBy([]impl.Txn{a}, "...", "... ..."))
	wantOrderCode(t, "that one lost", impl.ChangeLast(again.Order, newBoard()), impl.ErrState)
	wantSameOrders(t, "with it and without", again.Order, next.Order, false)
	wantTxns(t, "what counts stays", impl.DefiniteOf(again.Order, 1), a)
}
