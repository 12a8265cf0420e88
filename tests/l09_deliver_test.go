package tests

import (
	"fmt"
	"math"
	"slices"
	"testing"

	"loop.example/g00631/impl"
)

// Promise 10: behind a delivery all is as if nothing had been done ahead of its time, but what is not in the order yet; what was answered ahead of its time, and guessed right, is what is answered for good. Here: Deliver and FinalOf.

// wantDelivery asks all that is promised of a Deliver; r is right, fresh has no fault, and there is room for it.
func wantDelivery(t *testing.T, what string, r impl.Replica, fresh []impl.Txn) impl.ReplicaResult {
	t.Helper()
	got := impl.Deliver(r, fresh)
	plan := planByPairs(r.Tent, fresh)
	wantReplica(t, what, got, plan.Back, 0, replicaBy(slices.Concat(r.Done, fresh), plan.Keep))
	if got.Code != impl.OK {
		return got
	}
	wantCode(t, what+": ReplicaFault", impl.ReplicaFault(got.Replica), impl.OK)
	wantSameItems(t, what+": Base is what Done alone comes to", got.Replica.Base, impl.ExecAll(nil, got.Replica.Done).Items, true)
	wantItems(t, what+": all taken back", impl.TakeAll(got.Replica.Now, got.Replica.Undos), 0, got.Replica.Base)
	wantFinals(t, what, got.Replica)
	wantTents(t, what, got.Replica)
	wantDropped(t, what, got.Replica)
	wantAsIfNothingWasAhead(t, what, r, fresh, got.Replica)
	wantAnswersThatStay(t, what, r, got.Replica, plan)
	return got
}

// wantAsIfNothingWasAhead: with Tent dropped first, and what is kept heard behind the delivery, all comes to the same.
func wantAsIfNothingWasAhead(t *testing.T, what string, r impl.Replica, fresh []impl.Txn, then impl.Replica) {
	t.Helper()
	bare := impl.Deliver(impl.DropTent(r).Replica, fresh)
	wantReplica(t, what+", nothing ahead", bare, 0, 0, impl.DropTent(then).Replica)
	now := bare.Replica
	for _, txn := range then.Tent {
		heard := impl.OptDeliver(now, txn)
		wantReply(t, fmt.Sprint(what, ", heard behind it: ", txn.Id), impl.TentOf(then, txn.Id), impl.ReplyResult{Answer: heard.Answer, Value: heard.Value})
		now = heard.Replica
	}
	if !isSameReplica(now, then) {
		t.Errorf("%s: got %+v, but %+v where nothing was ahead", what, then, now)
	}
}

// wantAnswersThatStay: of those that were Done, of those that were guessed right, and, if nothing was guessed wrong, of those that are kept.
func wantAnswersThatStay(t *testing.T, what string, was, then impl.Replica, plan impl.Plan) {
	t.Helper()
	for _, txn := range was.Done {
		wantReply(t, fmt.Sprint(what, ": Done already, ", txn.Id), impl.FinalOf(then, txn.Session, txn.Seq), impl.FinalOf(was, txn.Session, txn.Seq))
	}
	for _, txn := range was.Tent[:plan.Commit] {
		wantReply(t, fmt.Sprint(what, ": guessed right, ", txn.Id), impl.FinalOf(then, txn.Session, txn.Seq), impl.TentOf(was, txn.Id))
	}
	if len(plan.Again) > 0 {
		return
	}
	for _, txn := range then.Tent {
		wantReply(t, fmt.Sprint(what, ": kept, ", txn.Id), impl.TentOf(then, txn.Id), impl.TentOf(was, txn.Id))
	}
	wantSameItems(t, what+": Now, all guessed right", then.Now, was.Now, true)
}

func TestDeliverByHand(t *testing.T) {
	a, b, c, d := own(1, put(1, 5)), own(2, add(1, 2)), own(3, put(2, 7), remove(1)), own(4, holds(1, 7))
	otherId, otherActs, onlyId := txnOf(9, b.Session, b.Seq, b.Acts...), own(2, add(1, 3)), txnOf(2, 9, 9, b.Acts...)
	cases := []struct {
		what              string
		done, tent, fresh []impl.Txn
		back              int64
		keep              []impl.Txn
		base, now         []impl.Item
	}{
		{"nothing at all", nil, nil, nil, 0, nil, nil, nil},
		{"nothing comes", []impl.Txn{a}, []impl.Txn{b, c}, nil, 0, []impl.Txn{b, c}, []impl.Item{item(1, 5)}, []impl.Item{item(2, 7)}},
		{"nothing was guessed", nil, nil, []impl.Txn{a, b}, 0, nil, []impl.Item{item(1, 7)}, []impl.Item{item(1, 7)}},
		{"all guessed, as long", nil, []impl.Txn{a, b}, []impl.Txn{a, b}, 0, nil, []impl.Item{item(1, 7)}, []impl.Item{item(1, 7)}},
		{"all guessed, longer", nil, []impl.Txn{a, b, c}, []impl.Txn{a}, 0, []impl.Txn{b, c}, []impl.Item{item(1, 5)}, []impl.Item{item(2, 7)}},
		{"too few guessed", nil, []impl.Txn{a}, []impl.Txn{a, b, c}, 0, nil, []impl.Item{item(2, 7)}, []impl.Item{item(2, 7)}},
		{"nothing guessed right", nil, []impl.Txn{a, b}, []impl.Txn{d, c}, 2, []impl.Txn{a, b}, nil, []impl.Item{item(1, 7)}},
		{"another order", nil, []impl.Txn{a, b}, []impl.Txn{b, a}, 2, nil, []impl.Item{item(1, 5)}, []impl.Item{item(1, 5)}},
		{"another order, one kept", nil, []impl.Txn{a, b, d}, []impl.Txn{b, a}, 3, []impl.Txn{d}, []impl.Item{item(1, 5)}, []impl.Item{item(1, 5)}},
		{"right up to a place", nil, []impl.Txn{a, b, d}, []impl.Txn{a, c}, 2, []impl.Txn{b, d}, []impl.Item{item(2, 7)}, []impl.Item{item(1, 2), item(2, 7)}},
		{"one that comes between", []impl.Txn{a}, []impl.Txn{b, d}, []impl.Txn{c, b}, 2, []impl.Txn{d}, []impl.Item{item(1, 2), item(2, 7)}, []impl.Item{item(1, 2), item(2, 7)}},
		{"under another Id", []impl.Txn{a}, []impl.Txn{b, d}, []impl.Txn{otherId}, 2, []impl.Txn{d}, []impl.Item{item(1, 7)}, []impl.Item{item(1, 7)}},
		{"with other acts", []impl.Txn{a}, []impl.Txn{b, d}, []impl.Txn{otherActs}, 2, []impl.Txn{d}, []impl.Item{item(1, 8)}, []impl.Item{item(1, 8)}},
		{"its Id for another request", []impl.Txn{a}, []impl.Txn{d, b}, []impl.Txn{onlyId}, 2, []impl.Txn{d}, []impl.Item{item(1, 7)}, []impl.Item{item(1, 7)}},
	}
	for _, c := range cases {
		r := replicaBy(c.done, c.tent)
		got := wantDelivery(t, c.what, r, c.fresh)
		if got.Answer != c.back {
			t.Errorf("%s: %d were taken back, want %d", c.what, got.Answer, c.back)
		}
		wantSame(t, c.what+", Done", got.Replica.Done, slices.Concat(c.done, c.fresh), true)
		wantSame(t, c.what+", Tent", got.Replica.Tent, c.keep, true)
		wantSameItems(t, c.what+", Base", got.Replica.Base, c.base, true)
		wantSameItems(t, c.what+", Now", got.Replica.Now, c.now, true)
	}
}

// All of it written out: one that is kept had no code and has one now, its undos are gone, and what stands behind it is turned by that.
func TestDeliverWhereWhatIsKeptHasACodeNow(t *testing.T) {
	done, kept, behind, fresh := own(1, put(1, 5)), own(2, holds(1, 5), put(2, 6)), own(3, add(2, 1)), own(4, put(1, 7))
	r := impl.Replica{Done: []impl.Txn{done}, Base: []impl.Item{item(1, 5)}, Tent: []impl.Txn{kept, behind},
		Undos: [][]impl.Undo{{wasNot(2)}, {was(2, 6)}}, Now: []impl.Item{item(1, 5), item(2, 7)}}
	wantReply(t, "ahead", impl.TentOf(r, 2), impl.ReplyResult{Value: 6})
	wantReply(t, "behind it, ahead", impl.TentOf(r, 3), impl.ReplyResult{Value: 7})
	got := wantDelivery(t, "a code now", r, []impl.Txn{fresh})
	wantReplica(t, "a code now", got, 2, 0, impl.Replica{Done: []impl.Txn{done, fresh}, Base: []impl.Item{item(1, 7)}, Tent: []impl.Txn{kept, behind},
		Undos: [][]impl.Undo{nil, {wasNot(2)}}, Now: []impl.Item{item(1, 7), item(2, 1)}})
	wantReply(t, "now", impl.TentOf(got.Replica, 2), impl.ReplyResult{Answer: impl.ErrAbort})
	wantReply(t, "behind it, now", impl.TentOf(got.Replica, 3), impl.ReplyResult{Value: 1})
}

func TestDeliverWhereWhatIsKeptHasNoCodeAnyMore(t *testing.T) {
	done, kept, fresh := own(1, put(1, 5)), own(2, holds(1, 7), put(2, 6)), own(4, put(1, 7))
	r := impl.Replica{Done: []impl.Txn{done}, Base: []impl.Item{item(1, 5)}, Tent: []impl.Txn{kept}, Undos: [][]impl.Undo{nil}, Now: []impl.Item{item(1, 5)}}
	wantReply(t, "ahead", impl.TentOf(r, 2), impl.ReplyResult{Answer: impl.ErrAbort})
	got := wantDelivery(t, "no code now", r, []impl.Txn{fresh})
	wantReplica(t, "no code now", got, 1, 0, impl.Replica{Done: []impl.Txn{done, fresh}, Base: []impl.Item{item(1, 7)}, Tent: []impl.Txn{kept},
		Undos: [][]impl.Undo{{wasNot(2)}}, Now: []impl.Item{item(1, 7), item(2, 6)}})
	wantReply(t, "now", impl.TentOf(got.Replica, 2), impl.ReplyResult{Value: 6})
}

// keptCode is one that is kept behind fresh, with the code that it had and the one that it has now.
type keptCode struct {
	done        []impl.Txn
	kept, fresh impl.Txn
	had, has    int64
}

// keptCodes have the store that failingDone come to, or one with a little more room.
func keptCodes() []keptCode {
	full := failingDone()
	room, low := append(failingDone(), own(20, remove(16))), append(failingDone(), own(20, add(2, -1000)))
	return []keptCode{
		{full, own(1, holds(4, 400)), own(2, put(4, 1)), impl.OK, impl.ErrAbort},
		{full, own(1, remove(4)), own(2, remove(4)), impl.OK, impl.ErrNone},
		{low, own(1, add(2, 1000)), own(2, add(2, 1)), impl.OK, impl.ErrRange},
		{room, own(1, put(1, 1)), own(2, put(3, 3)), impl.OK, impl.ErrFull},
		{full, own(1, holds(4, 1)), own(2, put(4, 1)), impl.ErrAbort, impl.OK},
		{full, own(1, remove(1)), own(2, remove(4), put(1, 1)), impl.ErrNone, impl.OK},
		{full, own(1, add(2, 1)), own(2, add(2, -1)), impl.ErrRange, impl.OK},
		{full, own(1, put(1, 1)), own(2, remove(4)), impl.ErrFull, impl.OK},
		{full, own(1, holds(6, 600), put(1, 1)), own(2, put(6, 0)), impl.ErrFull, impl.ErrAbort},
		{full, own(1, add(2, 1), remove(4)), own(2, add(2, -1), remove(4)), impl.ErrRange, impl.ErrNone},
		{full, own(1, put(1, 1)), own(2, remove(4), put(3, 3)), impl.ErrFull, impl.ErrFull},
		{full, own(1, put(4, 4), remove(6)), own(2, put(4, 9)), impl.OK, impl.OK},
		{full, own(1, add(4, 1000)), own(2, add(4, 1)), impl.OK, impl.OK},
	}
}

func TestDeliverTellsWhatIsKeptAnew(t *testing.T) {
	for i, c := range keptCodes() {
		what := fmt.Sprint("case ", i)
		r := replicaBy(c.done, []impl.Txn{c.kept})
		wantCode(t, what+", ahead", impl.TentOf(r, c.kept.Id).Answer, c.had)
		got := wantDelivery(t, what, r, []impl.Txn{c.fresh})
		wantCode(t, what+", now", impl.TentOf(got.Replica, c.kept.Id).Answer, c.has)
		then := wantDelivery(t, what+", and for good", got.Replica, []impl.Txn{c.kept})
		wantCode(t, what+", for good", impl.FinalOf(then.Replica, c.kept.Session, c.kept.Seq).Answer, c.has)
	}
}

// What is done for good may have another code than it had ahead of its time, where it was guessed in another order.
func TestDeliverInAnotherOrderHasOtherCodes(t *testing.T) {
	for i, c := range keptCodes() {
		r := replicaBy(c.done, []impl.Txn{c.kept, c.fresh})
		got := wantDelivery(t, fmt.Sprint("case ", i), r, []impl.Txn{c.fresh, c.kept})
		wantCode(t, fmt.Sprint("case ", i, ", ahead"), impl.TentOf(r, c.kept.Id).Answer, c.had)
		wantCode(t, fmt.Sprint("case ", i, ", for good"), impl.FinalOf(got.Replica, c.kept.Session, c.kept.Seq).Answer, c.has)
	}
}

// All that fits in: up to 16 would be Done, be it guessed or not; with one more there is no room.
func TestDeliverUpToSixteen(t *testing.T) {
	for done := range 17 {
		for fresh := range 18 {
			coming := ownTxns(20, fresh)
			for _, tent := range [][]impl.Txn{nil, coming[:min(fresh, 8)], ownTxns(50, 8)} {
				r := replicaBy(ownTxns(1, done), tent)
				what := fmt.Sprint(done, " Done, ", fresh, " come, ", len(tent), " in Tent")
				if done+fresh <= 16 {
					wantDelivery(t, what, r, coming)
				} else {
					wantReplicaCode(t, what, impl.Deliver(r, coming), impl.ErrFull)
				}
			}
		}
	}
	for _, count := range []int{18, 24, 32, 39, 40} {
		wantReplicaCode(t, fmt.Sprint(count), impl.Deliver(impl.Replica{}, ownTxns(1, count)), impl.ErrFull)
	}
	wantReplicaCode(t, "41", impl.Deliver(impl.Replica{}, ownTxns(1, 41)), impl.ErrMany)
}

func TestDeliverTellsTheListFaultOfFresh(t *testing.T) {
	replicas := []impl.Replica{{}, replicaBy(ownTxns(1, 16), ownTxns(17, 8))}
	for i, c := range allListCases() {
		if c.code != impl.OK {
			wantReplicaCode(t, c.what, impl.Deliver(replicas[i%2], c.list), c.code)
		}
	}
	for _, c := range listSeveralCases() {
		for i, r := range replicas {
			wantReplicaCode(t, fmt.Sprint(c.what, " at ", i), impl.Deliver(r, c.list), c.code)
		}
	}
}

// Whoever Done stands for is taken, wherever it stands in fresh; whoever Tent stands for may come.
func TestDeliverOfOneThatIsDone(t *testing.T) {
	r := replicaBy(ownTxns(1, 12), ownTxns(13, 8))
	for at, txn := range slices.Concat(r.Done, r.Tent) {
		for _, like := range likenesses() {
			for place := range 3 {
				fresh := slices.Insert(ownTxns(60, 2), place, like.of(txn))
				what := fmt.Sprint(like.what, " of ", at, " at ", place)
				if at < 12 && like.names {
					wantReplicaCode(t, what, impl.Deliver(r, fresh), impl.ErrTaken)
				} else {
					wantDelivery(t, what, r, fresh)
				}
			}
		}
	}
}

func TestDeliverOrderOfCodes(t *testing.T) {
	full := replicaBy(ownTxns(1, 16), ownTxns(17, 8))
	some := replicaBy(ownTxns(1, 10), nil)
	wantReplicaCode(t, "one that is Done, and no room", impl.Deliver(full, ownTxns(16, 1)), impl.ErrTaken)
	wantReplicaCode(t, "the last one of many is Done, and no room", impl.Deliver(full, append(ownTxns(50, 39), ownTxns(1, 1)...)), impl.ErrTaken)
	wantReplicaCode(t, "no room", impl.Deliver(full, ownTxns(17, 1)), impl.ErrFull)
	wantReplicaCode(t, "no room for the last one", impl.Deliver(some, ownTxns(50, 7)), impl.ErrFull)
	wantReplicaCode(t, "one that is Done, then a fault", impl.Deliver(some, []impl.Txn{ownTxns(1, 1)[0], {}}), impl.ErrRange)
	wantReplicaCode(t, "one that is Done, with a fault", impl.Deliver(some, []impl.Txn{own(1)}), impl.ErrMany)
	wantReplicaCode(t, "no room, and a fault at the end", impl.Deliver(full, append(ownTxns(50, 30), own(90, impl.Act{Kind: 9, Key: 1}))), impl.ErrForm)
	wantReplicaCode(t, "no room, and one twice", impl.Deliver(full, append(ownTxns(50, 30), ownTxns(50, 1)...)), impl.ErrTaken)
	wantReplicaCode(t, "41, one that is Done", impl.Deliver(some, ownTxns(1, 41)), impl.ErrMany)
	wantReplicaCode(t, "41 of nothing", impl.Deliver(full, make([]impl.Txn, 41)), impl.ErrMany)
	wantDelivery(t, "nothing, and no room", full, nil)
	wantDelivery(t, "just so much room", some, ownTxns(50, 6))
}

func TestFinalOfByHand(t *testing.T) {
	r := richReplica()
	for id, want := range map[int64]impl.ReplyResult{1: {Value: 6}, 2: {Answer: impl.ErrAbort}, 3: {}} {
		wantReply(t, fmt.Sprint("Id ", id), impl.FinalOf(r, 1+id, 1+id), want)
	}
	for _, n := range []int64{0, 1, 5, 9, 10, -2, 2 + 256, 2 + 1<<32, math.MinInt64, math.MaxInt64} {
		wantReplyCode(t, fmt.Sprint("Session ", n), impl.FinalOf(r, n, 2), impl.ErrNone)
		wantReplyCode(t, fmt.Sprint("Seq ", n), impl.FinalOf(r, 2, n), impl.ErrNone)
		wantReplyCode(t, fmt.Sprint("both ", n), impl.FinalOf(r, n, n), impl.ErrNone)
	}
	wantReplyCode(t, "the Session of one, the Seq of another", impl.FinalOf(r, 2, 3), impl.ErrNone)
	wantReplyCode(t, "the other way round", impl.FinalOf(r, 3, 2), impl.ErrNone)
	wantReplyCode(t, "of a new one", impl.FinalOf(impl.Replica{}, 0, 0), impl.ErrNone)
	turned := replicaBy([]impl.Txn{txnOf(1, 2, 3, put(1, 7)), txnOf(2, 3, 2, put(1, 8)), txnOf(3, 2, 4, remove(1))}, nil)
	wantReply(t, "2, 3", impl.FinalOf(turned, 2, 3), impl.ReplyResult{Value: 7})
	wantReply(t, "3, 2", impl.FinalOf(turned, 3, 2), impl.ReplyResult{Value: 8})
	wantReply(t, "2, 4", impl.FinalOf(turned, 2, 4), impl.ReplyResult{})
	for i, r := range rightReplicas() {
		wantFinals(t, fmt.Sprint("replica ", i), r)
	}
}
