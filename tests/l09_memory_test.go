package tests

import (
	"fmt"
	"slices"
	"testing"

	"loop.example/g00631/impl"
)

// Promise 1, of chapter 9.

// manyReplicas are right and wrong, with lists that are nil, empty and too long.
func manyReplicas() []impl.Replica {
	list := append(rightReplicas(), impl.Replica{Done: []impl.Txn{}, Base: []impl.Item{}, Tent: []impl.Txn{}, Undos: [][]impl.Undo{}, Now: []impl.Item{}},
		impl.Replica{Done: ownTxns(1, 17)}, impl.Replica{Tent: make([]impl.Txn, 300)}, impl.Replica{Done: []impl.Txn{{Acts: []impl.Act{}}}},
		impl.Replica{Undos: [][]impl.Undo{nil, {}}}, impl.Replica{Undos: make([][]impl.Undo, 300)}, impl.Replica{Base: make([]impl.Item, 300), Now: make([]impl.Item, 300)})
	for at, c := range replicaNamedCases() {
		if at%5 == 0 {
			list = append(list, c.replica)
		}
	}
	return list
}

func manyHeard(r impl.Replica) []impl.Txn {
	list := []impl.Txn{{}, {Acts: []impl.Act{}}, own(180), own(180, put(1, 1)), own(181, remove(20)), own(182, holds(1, 1), add(1, 1)), someTxn(190)}
	return slices.Concat(list, r.Done[:min(1, len(r.Done))], r.Tent[:min(1, len(r.Tent))])
}

func manyFresh(r impl.Replica) [][]impl.Txn {
	tent := r.Tent[:min(len(r.Tent), 8)]
	turned := slices.Clone(tent)
	slices.Reverse(turned)
	return [][]impl.Txn{nil, {}, {{}}, tent, tent[:len(tent)/2], turned, turned[:len(turned)/2], append(slices.Clone(tent), ownTxns(80, 2)...),
		ownTxns(80, 1), ownTxns(80, 16), ownTxns(80, 17), ownTxns(1, 2), make([]impl.Txn, 41), {own(180, put(1, 9), remove(4)), own(180, put(1, 1))}}
}

func TestReplicasLeaveAllElseAlone(t *testing.T) {
	var calls []call
	for i, r := range manyReplicas() {
		calls = append(calls, call1(fmt.Sprint("ReplicaFault ", i), impl.ReplicaFault, r), call1(fmt.Sprint("DropTent ", i), impl.DropTent, r))
		for j, txn := range manyHeard(r) {
			calls = append(calls, call2(fmt.Sprint("OptDeliver ", i, " of ", j), impl.OptDeliver, r, txn))
			calls = append(calls, call3(fmt.Sprint("FinalOf ", i, " of ", j), impl.FinalOf, r, txn.Session, txn.Seq))
			calls = append(calls, call2(fmt.Sprint("TentOf ", i, " of ", j), impl.TentOf, r, txn.Id))
		}
		for j, fresh := range manyFresh(r) {
			calls = append(calls, call2(fmt.Sprint("Deliver ", i, " of ", j), impl.Deliver, r, fresh))
		}
		for j, other := range manyReplicas() {
			calls = append(calls, call2(fmt.Sprint("SameReplicas ", i, " and ", j), impl.SameReplicas, r, other))
		}
	}
	checkCalls(t, calls)
}

// Every number as a name, and as what Base, Undos and Now hold.
func TestReplicasAnswerAtEveryNumber(t *testing.T) {
	var calls []call
	for _, n := range manyInts {
		r := replicaBy(ownTxns(1, 2), ownTxns(3, 2))
		what := fmt.Sprint(n)
		calls = append(calls, call2("TentOf "+what, impl.TentOf, r, n), call3("FinalOf "+what, impl.FinalOf, r, n, n), call3("FinalOf, the Session "+what, impl.FinalOf, r, n, 2), call3("FinalOf, the Seq "+what, impl.FinalOf, r, 2, n))
		for i, txn := range []impl.Txn{named(n, 1, 1, 0), named(90, n, 1, 0), named(90, 1, n, 0), named(90, 1, 1, n), own(90, impl.Act{Kind: n, Key: n, Value: n})} {
			calls = append(calls, call2(fmt.Sprint("OptDeliver ", n, " as ", i), impl.OptDeliver, r, txn), call2(fmt.Sprint("Deliver ", n, " as ", i), impl.Deliver, r, []impl.Txn{txn}),
				call1(fmt.Sprint("ReplicaFault ", n, " as ", i, ", Done"), impl.ReplicaFault, impl.Replica{Done: []impl.Txn{txn}}), call1(fmt.Sprint("DropTent ", n, " as ", i), impl.DropTent, impl.Replica{Tent: []impl.Txn{txn}}))
		}
		items, undos := []impl.Item{item(n, n)}, [][]impl.Undo{{was(n, n)}}
		for i, wrong := range []impl.Replica{{Base: items}, {Now: items}, {Undos: undos}, {Tent: ownTxns(1, 1), Undos: undos, Now: items}} {
			calls = append(calls, call1(fmt.Sprint("ReplicaFault ", n, " in ", i), impl.ReplicaFault, wrong), call2(fmt.Sprint("SameReplicas ", n, " in ", i), impl.SameReplicas, wrong, wrong))
		}
	}
	checkCalls(t, calls)
}

// What is answered is the caller's own: what is written to it, or later to the arguments, shows nowhere else.
func TestReplicasAreNewMemory(t *testing.T) {
	fresh := []impl.Txn{richReplica().Tent[0], own(90, put(1, 1), remove(4))}
	kept := richReplica().Tent[1:]
	txn := own(91, put(1, 1), add(3, 3))
	ask := map[string]func(r impl.Replica, fresh []impl.Txn, txn impl.Txn) impl.ReplicaResult{
		"OptDeliver": func(r impl.Replica, _ []impl.Txn, txn impl.Txn) impl.ReplicaResult { return impl.OptDeliver(r, txn) },
		"Deliver":    func(r impl.Replica, fresh []impl.Txn, _ impl.Txn) impl.ReplicaResult { return impl.Deliver(r, fresh) },
		"DropTent":   func(r impl.Replica, _ []impl.Txn, _ impl.Txn) impl.ReplicaResult { return impl.DropTent(r) },
	}
	want := map[string]impl.ReplicaResult{
		"OptDeliver": {Value: 3, Replica: replicaBy(richReplica().Done, append(richReplica().Tent, txn))},
		"Deliver":    {Answer: 4, Replica: replicaBy(append(richReplica().Done, fresh...), kept)},
		"DropTent":   {Answer: 5, Replica: replicaBy(richReplica().Done, nil)},
	}
	for what, f := range ask {
		r, come, heard := richReplica(), copied(fresh).([]impl.Txn), copied(txn).(impl.Txn)
		first, second := f(r, come, heard), f(r, come, heard)
		overwrite(first)
		wantSameReplicas(t, what+": the argument behind it", r, richReplica(), true)
		wantSame(t, what+": fresh behind it", come, fresh, true)
		wantSame(t, what+": the transaction behind it", []impl.Txn{heard}, []impl.Txn{txn}, true)
		overwrite(r)
		overwrite(come)
		overwrite(heard)
		wantReplica(t, what+": the other answer", second, want[what].Answer, want[what].Value, want[what].Replica)
	}
}

// Where nothing is turned Now is as Base, or as it was: it is new memory all the same.
func TestReplicasThatNothingTurnsAreNewMemory(t *testing.T) {
	for i, r := range rightReplicas() {
		answers := map[string]impl.ReplicaResult{"Deliver of nothing": impl.Deliver(r, nil), "Deliver of Tent": impl.Deliver(r, r.Tent), "Deliver of one of Tent": impl.Deliver(r, r.Tent[:min(1, len(r.Tent))]),
			"DropTent": impl.DropTent(r), "OptDeliver of one with a code": impl.OptDeliver(r, own(180, remove(20)))}
		for what, got := range answers {
			checkNewMemory(t, fmt.Sprint(what, " at ", i), got, []any{r})
		}
	}
}

// Lists that an argument has twice are told apart in the answer.
func TestSharedReplicasAreToldApart(t *testing.T) {
	acts := []impl.Act{holds(1, 1)}
	one := put(1, 1)
	r := replicaBy([]impl.Txn{own(1, one), own(2, acts...), own(3, acts...)}, []impl.Txn{own(4, acts...), own(5, acts...), own(6, one), own(7, one)})
	r.Now = r.Base
	r.Undos[3] = r.Undos[2]
	r.Done[0].Acts, r.Tent[2].Acts = r.Tent[3].Acts, r.Tent[3].Acts
	wantCode(t, "it is right", impl.ReplicaFault(r), impl.OK)
	heard := own(8, acts...)
	fresh := []impl.Txn{r.Tent[1], own(9, acts...), heard}
	for what, got := range map[string]impl.ReplicaResult{"OptDeliver": impl.OptDeliver(r, heard), "Deliver": impl.Deliver(r, fresh), "DropTent": impl.DropTent(r),
		"Deliver of Tent": impl.Deliver(r, r.Tent), "Deliver of its beginning": impl.Deliver(r, r.Tent[:2]), "Deliver of its end": impl.Deliver(r, r.Tent[2:])} {
		wantCode(t, what, got.Code, impl.OK)
		checkNewMemory(t, what, got, []any{r, fresh, heard})
	}
	all := ownTxns(1, 24)
	cut := replicaBy(all[:16], all[16:])
	checkNewMemory(t, "Done and Tent of one array", impl.DropTent(cut), []any{all})
	wantCode(t, "Done and Tent of one array", impl.ReplicaFault(cut), impl.OK)
}

// What stands behind a length is none of it, and stays.
func TestReplicasStopAtTheLength(t *testing.T) {
	all := ownTxns(1, 30)
	r := replicaBy(all[:10], all[10:13])
	items := append(slices.Clone(r.Base), item(20, 20))
	undos := append(slices.Clone(r.Undos), []impl.Undo{wasNot(20)})
	r.Base, r.Now, r.Undos = items[:1], append(slices.Clone(r.Now), item(20, 20))[:1], undos[:3]
	wantCode(t, "cut", impl.ReplicaFault(r), impl.OK)
	wantReplyCode(t, "behind Done", impl.FinalOf(r, all[10].Session, all[10].Seq), impl.ErrNone)
	wantReplyCode(t, "behind Tent", impl.TentOf(r, all[13].Id), impl.ErrNone)
	wantEarly(t, "behind Tent", r, own(60, put(2, 2)))
	wantDelivery(t, "one behind Tent", r, all[13:15])
	wantDelivery(t, "two of Tent", r, all[10:12])
	wantDelivery(t, "more than Tent", r, all[10:16])
	wantSame(t, "all of it then", all, ownTxns(1, 30), true)
	wantSameItems(t, "the item behind Base", items[1:], []impl.Item{item(20, 20)}, true)
	wantSameUndo(t, "the list behind Undos", undos[3], []impl.Undo{wasNot(20)}, true)
}
