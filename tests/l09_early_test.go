package tests

import (
	"fmt"
	"math"
	"slices"
	"testing"

	"loop.example/g00631/impl"
)

// Promise 10: what is done ahead of its time leaves what is done for good. Here: OptDeliver, TentOf and DropTent.

// wantTents asks TentOf of all of r, which is right.
func wantTents(t *testing.T, what string, r impl.Replica) {
	t.Helper()
	replies := repliesBy(r.Done, r.Tent)[len(r.Done):]
	for at, txn := range r.Tent {
		wantReply(t, fmt.Sprint(what, ": TentOf ", at), impl.TentOf(r, txn.Id), replies[at])
	}
	for _, txn := range r.Done {
		wantReplyCode(t, fmt.Sprint(what, ": TentOf ", txn.Id, ", which is Done"), impl.TentOf(r, txn.Id), impl.ErrNone)
	}
}

// wantFinals asks FinalOf of all of r, which is right.
func wantFinals(t *testing.T, what string, r impl.Replica) {
	t.Helper()
	replies := repliesBy(r.Done)
	for at, txn := range r.Done {
		wantReply(t, fmt.Sprint(what, ": FinalOf ", at), impl.FinalOf(r, txn.Session, txn.Seq), replies[at])
	}
	for _, txn := range r.Tent {
		wantReplyCode(t, fmt.Sprint(what, ": FinalOf ", txn.Id, ", which is in Tent"), impl.FinalOf(r, txn.Session, txn.Seq), impl.ErrNone)
	}
}

func wantDropped(t *testing.T, what string, r impl.Replica) {
	t.Helper()
	wantReplica(t, what+", dropped", impl.DropTent(r), int64(len(r.Tent)), 0, replicaBy(r.Done, nil))
}

// wantEarly asks all that is promised of an OptDeliver; r and txn are right.
func wantEarly(t *testing.T, what string, r impl.Replica, txn impl.Txn) impl.ReplicaResult {
	t.Helper()
	got := impl.OptDeliver(r, txn)
	switch {
	case isAmong(r.Done, txn) || isAmong(r.Tent, txn):
		wantReplicaCode(t, what, got, impl.ErrTaken)
		return got
	case len(r.Tent) == 8:
		wantReplicaCode(t, what, got, impl.ErrFull)
		return got
	}
	tent := append(slices.Clone(r.Tent), txn)
	reply := repliesBy(r.Done, tent)[len(r.Done)+len(r.Tent)]
	wantReplica(t, what, got, reply.Answer, reply.Value, replicaBy(r.Done, tent))
	if got.Code != impl.OK {
		return got
	}
	wantSame(t, what+": Done as it was", got.Replica.Done, r.Done, true)
	wantSameItems(t, what+": Base as it was", got.Replica.Base, r.Base, true)
	wantSame(t, what+": the others of Tent", got.Replica.Tent[:len(r.Tent)], r.Tent, true)
	if reply.Answer != impl.OK {
		wantSameItems(t, what+": Now, where it has a code", got.Replica.Now, r.Now, true)
	}
	wantCode(t, what+": ReplicaFault", impl.ReplicaFault(got.Replica), impl.OK)
	wantItems(t, what+": all taken back", impl.TakeAll(got.Replica.Now, got.Replica.Undos), 0, r.Base)
	wantTents(t, what, got.Replica)
	wantFinals(t, what, got.Replica)
	wantDropped(t, what, got.Replica)
	return got
}

func TestOptDeliverByHand(t *testing.T) {
	first, second, third := own(1, put(1, 5)), own(2, add(1, 2), put(3, 9), remove(1)), own(3, holds(3, 9))
	a := impl.OptDeliver(impl.Replica{}, first)
	wantReplica(t, "into a new one", a, 0, 5, impl.Replica{Tent: []impl.Txn{first}, Undos: [][]impl.Undo{{wasNot(1)}}, Now: []impl.Item{item(1, 5)}})
	b := impl.OptDeliver(a.Replica, second)
	wantReplica(t, "behind one", b, 0, 0, impl.Replica{Tent: []impl.Txn{first, second},
		Undos: [][]impl.Undo{{wasNot(1)}, {was(1, 5), wasNot(3), was(1, 7)}}, Now: []impl.Item{item(3, 9)}})
	c := impl.OptDeliver(b.Replica, third)
	wantReplica(t, "a check", c, 0, 9, impl.Replica{Tent: []impl.Txn{first, second, third},
		Undos: [][]impl.Undo{{wasNot(1)}, {was(1, 5), wasNot(3), was(1, 7)}, nil}, Now: []impl.Item{item(3, 9)}})
	done := impl.Replica{Done: []impl.Txn{first}, Base: []impl.Item{item(1, 5)}, Now: []impl.Item{item(1, 5)}}
	wantReplica(t, "behind one that is Done", impl.OptDeliver(done, second), 0, 0, impl.Replica{Done: []impl.Txn{first}, Base: []impl.Item{item(1, 5)},
		Tent: []impl.Txn{second}, Undos: [][]impl.Undo{{was(1, 5), wasNot(3), was(1, 7)}}, Now: []impl.Item{item(3, 9)}})
	wantReplica(t, "with a code", impl.OptDeliver(done, third), impl.ErrAbort, 0, impl.Replica{Done: []impl.Txn{first}, Base: []impl.Item{item(1, 5)},
		Tent: []impl.Txn{third}, Undos: [][]impl.Undo{nil}, Now: []impl.Item{item(1, 5)}})
	for i, r := range rightReplicas() {
		wantEarly(t, fmt.Sprint("replica ", i), r, own(180, put(1, 9), add(20, 1)))
	}
}

// It is done with Now, not with Base.
func TestOptDeliverSeesWhatIsInTent(t *testing.T) {
	r := replicaBy([]impl.Txn{own(1, put(1, 5))}, []impl.Txn{own(2, add(1, 2)), own(3, put(4, 4))})
	wantReplica(t, "a check of Now", impl.OptDeliver(r, own(9, holds(1, 7))), 0, 7, replicaBy(r.Done, append(r.Tent[:2:2], own(9, holds(1, 7)))))
	wantReplica(t, "a check of Base", impl.OptDeliver(r, own(9, holds(1, 5))), impl.ErrAbort, 0, replicaBy(r.Done, append(r.Tent[:2:2], own(9, holds(1, 5)))))
	wantReplica(t, "a delete of what Base has not", impl.OptDeliver(r, own(9, remove(4))), 0, 0, replicaBy(r.Done, append(r.Tent[:2:2], own(9, remove(4)))))
}

// Answer tells the code, whichever it is and wherever the act stands; nothing of Now is turned, and nothing is to undo.
func TestOptDeliverOfOneThatHasACode(t *testing.T) {
	others := []impl.Act{put(6, 7), add(8, 7), put(10, 7), add(12, -7)}
	guessed := []impl.Txn{own(1, put(6, 3)), own(2, remove(19)), own(3, add(8, 1)), own(4, holds(4, 400)), own(5, put(6, 4)), own(6, put(8, 0)), own(7, holds(8, 1))}
	for code, act := range failingActs() {
		for at := range 4 {
			for ahead := range 8 {
				r := replicaBy(failingDone(), guessed[:ahead])
				txn := own(180, slices.Clone(others)...)
				txn.Acts[at] = act
				what := fmt.Sprint("code ", code, " at ", at, " behind ", ahead)
				got := wantEarly(t, what, r, txn)
				wantCode(t, what+", no code of the call", got.Code, impl.OK)
				wantCode(t, what+", Answer", got.Answer, code)
				wantSameItems(t, what+", Now", got.Replica.Now, r.Now, true)
				wantSameUndo(t, what+", its undos", got.Replica.Undos[ahead], nil, true)
				wantReply(t, what, impl.TentOf(got.Replica, 180), impl.ReplyResult{Answer: code})
				if ahead < 7 {
					wantEarly(t, what+", and one more", got.Replica, own(181, add(6, 1)))
				}
			}
		}
	}
}

// One with a code takes its place in Tent too.
func TestOptDeliverUpToTheEighthPlace(t *testing.T) {
	for _, act := range []func(i int64) impl.Act{func(i int64) impl.Act { return add(1, i) }, func(i int64) impl.Act { return remove(20) }} {
		r := replicaBy(ownTxns(1, 16), nil)
		for i := range int64(8) {
			wantCode(t, fmt.Sprint("room for ", i), wantEarly(t, fmt.Sprint("place ", i), r, own(50+i, act(i))).Code, impl.OK)
			r = impl.OptDeliver(r, own(50+i, act(i))).Replica
		}
		if len(r.Tent) != 8 || len(r.Undos) != 8 {
			t.Fatalf("%d in Tent, %d Undos", len(r.Tent), len(r.Undos))
		}
		wantReplicaCode(t, "the ninth", impl.OptDeliver(r, own(60, put(1, 1))), impl.ErrFull)
		wantReplicaCode(t, "the ninth, which would have a code", impl.OptDeliver(r, own(60, remove(19))), impl.ErrFull)
		wantReplicaCode(t, "the ninth, which is Done", impl.OptDeliver(r, r.Done[0]), impl.ErrTaken)
		wantReplicaCode(t, "the ninth, which is in Tent", impl.OptDeliver(r, r.Tent[7]), impl.ErrTaken)
		wantReplicaCode(t, "the ninth, with a fault", impl.OptDeliver(r, own(60)), impl.ErrMany)
		wantReplicaCode(t, "the ninth, which is in Tent, with a fault", impl.OptDeliver(r, own(50, put(0, 0))), impl.ErrRange)
	}
}

// Whoever Done or Tent stands for is taken, be it by the Id alone, or by Session and Seq alone; also where there is no room.
func TestOptDeliverOfOneThatIsThere(t *testing.T) {
	for _, tent := range []int{0, 1, 7, 8} {
		list := ownTxns(1, 16+tent)
		r := replicaBy(list[:16], list[16:])
		for at, txn := range list {
			for _, like := range likenesses() {
				what := fmt.Sprint(tent, " in Tent, ", like.what, " of ", at)
				got := wantEarly(t, what, r, like.of(txn))
				wantBool(t, what+", taken", got.Code == impl.ErrTaken, like.names)
			}
		}
	}
	r := replicaBy([]impl.Txn{named(1, 2, 3, 0)}, []impl.Txn{named(4, 5, 6, 0)})
	wantReplicaCode(t, "the Id of one that is Done, the request of one in Tent", impl.OptDeliver(r, named(1, 5, 6, 0)), impl.ErrTaken)
	wantEarly(t, "the Session of one that is Done, the Seq of one in Tent", r, named(9, 2, 6, 0))
	wantEarly(t, "the Seq of one that is Done, the Session of one in Tent", r, named(9, 5, 3, 0))
}

func TestOptDeliverTellsTheTxnFaultFirst(t *testing.T) {
	full := replicaBy(ownTxns(1, 16), ownTxns(17, 8))
	for _, c := range allTxnCases() {
		if c.code != impl.OK {
			for i, r := range []impl.Replica{{}, richReplica(), full} {
				wantReplicaCode(t, fmt.Sprint(c.what, " at ", i), impl.OptDeliver(r, c.txn), c.code)
			}
		}
	}
	for _, c := range slices.Concat(actCases(), formCases(), countCases()) {
		if c.code != impl.OK {
			for _, there := range ownTxns(1, 24) {
				taken := txnOf(there.Id, there.Session, there.Seq, c.txn.Acts...)
				wantReplicaCode(t, fmt.Sprint(c.what, " of ", there.Id, ", which is there"), impl.OptDeliver(full, taken), c.code)
			}
		}
	}
}

func TestTentOfByHand(t *testing.T) {
	r := richReplica()
	for id, want := range map[int64]impl.ReplyResult{4: {Value: 1}, 5: {Answer: impl.ErrNone}, 6: {Value: 3}, 7: {Value: 1}, 8: {Answer: impl.ErrAbort}} {
		wantReply(t, fmt.Sprint("Id ", id), impl.TentOf(r, id), want)
	}
	for _, id := range []int64{0, 1, 2, 3, 9, 10, 200, 201, -4, 4 + 256, 4 + 1<<32, math.MinInt64, math.MaxInt64} {
		wantReplyCode(t, fmt.Sprint("Id ", id), impl.TentOf(r, id), impl.ErrNone)
	}
	wantReplyCode(t, "of a new one", impl.TentOf(impl.Replica{}, 0), impl.ErrNone)
	late := replicaBy(nil, []impl.Txn{own(1, put(1, 5)), own(2, remove(1)), own(3, remove(1))})
	wantReply(t, "its Value where it stands", impl.TentOf(late, 1), impl.ReplyResult{Value: 5})
	wantReply(t, "gone", impl.TentOf(late, 2), impl.ReplyResult{})
	wantReply(t, "gone already", impl.TentOf(late, 3), impl.ReplyResult{Answer: impl.ErrNone})
	for i, r := range rightReplicas() {
		wantTents(t, fmt.Sprint("replica ", i), r)
	}
}

func TestDropTentByHand(t *testing.T) {
	rich := richReplica()
	wantReplica(t, "five", impl.DropTent(rich), 5, 0, impl.Replica{Done: rich.Done, Base: rich.Base, Now: rich.Base})
	wantReplica(t, "a new one", impl.DropTent(impl.Replica{}), 0, 0, impl.Replica{})
	wantReplica(t, "an empty Tent", impl.DropTent(replicaBy(rich.Done, nil)), 0, 0, replicaBy(rich.Done, nil))
	wantReplica(t, "eight", impl.DropTent(replicaBy(ownTxns(1, 16), ownTxns(17, 8))), 8, 0, replicaBy(ownTxns(1, 16), nil))
	wantReplica(t, "eight alone", impl.DropTent(replicaBy(nil, ownTxns(17, 8))), 8, 0, impl.Replica{})
	for i, r := range rightReplicas() {
		what := fmt.Sprint("replica ", i)
		wantDropped(t, what, r)
		dropped := impl.DropTent(r)
		wantCode(t, what+": ReplicaFault", impl.ReplicaFault(dropped.Replica), impl.OK)
		wantReplica(t, what+", twice", impl.DropTent(dropped.Replica), 0, 0, dropped.Replica)
		wantFinals(t, what, dropped.Replica)
	}
}

// onceIn leaves out whom one ahead stands for.
func onceIn(list []impl.Txn) []impl.Txn {
	var once []impl.Txn
	for _, txn := range list {
		if !isAmong(once, txn) {
			once = append(once, txn)
		}
	}
	return once
}

// Whatever is done ahead of its time and dropped leaves what was, and so it may come again.
func TestDropTentBehindOptDeliverLeavesWhatWas(t *testing.T) {
	for seed := range uint32(60) {
		list := onceIn(mixedTxns(seed, 30))
		cut := min(int(seed)%17, len(list)-8)
		start := replicaBy(list[:cut], nil)
		for range 2 {
			now := start
			for _, txn := range list[cut : cut+8] {
				now = wantEarly(t, fmt.Sprint("seed ", seed), now, txn).Replica
			}
			wantReplica(t, fmt.Sprint("seed ", seed), impl.DropTent(now), 8, 0, start)
		}
	}
}
