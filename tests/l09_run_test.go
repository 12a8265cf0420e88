package tests

import (
	"fmt"
	"slices"
	"testing"

	"loop.example/g00631/impl"
)

// Promise 10, of whole runs: what is heard, what is delivered and what is dropped, in whatever order.

// heard draws a transaction of few Keys and not too many names, so that they meet each other.
func (d *drawn) heard() impl.Txn {
	id := int64(1 + d.below(40))
	txn := txnOf(id, 1+id%9, 1+id%30)
	if d.below(8) == 0 {
		txn.Session = int64(1 + d.below(9))
	}
	for range 1 + d.below(3) {
		key, value := int64(1+d.below([]int{2, 3, 14}[d.below(3)])), int64(d.below(2))
		txn.Acts = append(txn.Acts, []impl.Act{put(key, value), put(key, value), put(key, value), add(key, 1), add(key, -1), remove(key), holds(key, value)}[d.below(7)])
	}
	return txn
}

// delivery draws what may come behind r: at times a beginning of Tent, then a few of its rest and others, stirred; none of it is Done.
func (d *drawn) delivery(r impl.Replica) []impl.Txn {
	at := d.below(2) * d.below(len(r.Tent)+1)
	fresh, others := slices.Clone(r.Tent[:at]), []impl.Txn{d.heard(), d.heard()}[:d.below(3)]
	for _, txn := range r.Tent[at:] {
		if d.below(5) == 0 {
			others = append(others, txn)
		}
	}
	for range d.below(3) * len(others) {
		i, j := d.below(len(others)), d.below(len(others))
		others[i], others[j] = others[j], others[i]
	}
	for _, txn := range others {
		if !isAmong(fresh, txn) && !isAmong(r.Done, txn) {
			fresh = append(fresh, txn)
		}
	}
	return fresh[:min(len(fresh), 16-len(r.Done))]
}

// seen counts what came up in the runs.
type seen struct {
	rightGuesses, wrongGuesses, keptBehindWrong, codeNow, noCodeNow, otherAnswers, dropped int
	answers                                                                                map[int64]int
}

func (s *seen) delivery(was, then impl.Replica, back int64) {
	if back > 0 {
		s.wrongGuesses++
		s.keptBehindWrong += len(then.Tent)
	} else if len(then.Done) > len(was.Done) && len(was.Tent) > 0 {
		s.rightGuesses++
	}
	for _, txn := range then.Tent {
		had, has := impl.TentOf(was, txn.Id), impl.TentOf(then, txn.Id)
		switch {
		case had.Answer == impl.OK && has.Answer != impl.OK:
			s.codeNow++
		case had.Answer != impl.OK && has.Answer == impl.OK:
			s.noCodeNow++
		case had != has:
			s.otherAnswers++
		}
	}
}

// runReplica goes from a new one until Done is full, and asks every step.
func runReplica(t *testing.T, seed int, s *seen) {
	d := drawn(seed)
	var r impl.Replica
	for step := 0; step < 120 && len(r.Done) < 16; step++ {
		what := fmt.Sprint("run ", seed, ", step ", step)
		switch n := d.below(20); {
		case n < 15:
			if got := wantEarly(t, what, r, d.heard()); got.Code == impl.OK {
				s.answers[got.Answer]++
				r = got.Replica
			}
		case n < 19:
			got := wantDelivery(t, what, r, d.delivery(r))
			s.delivery(r, got.Replica, got.Answer)
			r = got.Replica
		default:
			wantDropped(t, what, r)
			r = impl.DropTent(r).Replica
			s.dropped++
		}
		if t.Failed() {
			t.FailNow()
		}
	}
}

func TestReplicasInWholeRuns(t *testing.T) {
	s := seen{answers: map[int64]int{}}
	for seed := range 200 {
		runReplica(t, seed, &s)
	}
	for what, count := range map[string]int{"right guesses": s.rightGuesses, "wrong guesses": s.wrongGuesses, "kept behind a wrong guess": s.keptBehindWrong,
		"kept, a code now": s.codeNow, "kept, no code now": s.noCodeNow, "kept, another answer": s.otherAnswers, "dropped": s.dropped,
		"heard": s.answers[impl.OK], "ErrNone": s.answers[impl.ErrNone], "ErrAbort": s.answers[impl.ErrAbort], "ErrFull": s.answers[impl.ErrFull]} {
		if count < 20 {
			t.Errorf("%s: %d alone, these runs try too little", what, count)
		}
	}
}

// All that was guessed right comes in parts, cut anywhere: it is answered for good as it was ahead of its time.
func TestRightGuessesAreAnsweredForGood(t *testing.T) {
	for seed := range uint32(40) {
		list := onceIn(mixedTxns(seed, 30))
		r := replicaBy(list[:8], list[8:16])
		for first := range 9 {
			for second := first; second <= 8; second++ {
				what := fmt.Sprint("seed ", seed, ", cut at ", first, " and ", second)
				now := wantDelivered(t, what, r, r.Tent[:first])
				now = wantDelivered(t, what, now, r.Tent[first:second])
				wantSameItems(t, what+": Now", now.Now, r.Now, true)
				wantSame(t, what+": Tent", now.Tent, r.Tent[second:], true)
				for _, txn := range r.Tent[:second] {
					wantReply(t, what, impl.FinalOf(now, txn.Session, txn.Seq), impl.TentOf(r, txn.Id))
				}
				for _, txn := range r.Tent[second:] {
					wantReply(t, what, impl.TentOf(now, txn.Id), impl.TentOf(r, txn.Id))
				}
			}
		}
	}
}

// wantDelivered is for what was guessed right: nothing is taken back.
func wantDelivered(t *testing.T, what string, r impl.Replica, fresh []impl.Txn) impl.Replica {
	t.Helper()
	got := impl.Deliver(r, fresh)
	wantReplica(t, what, got, 0, 0, replicaBy(slices.Concat(r.Done, fresh), r.Tent[len(fresh):]))
	return got.Replica
}

// Two that hear the same in other orders, and get the same deliveries, have the same Done and Base, and answer the same for good.
func TestWhatWasHeardLeavesNoTrace(t *testing.T) {
	for seed := range 60 {
		d := drawn(seed)
		var one, other impl.Replica
		for range 4 {
			var fresh []impl.Txn
			for range 6 {
				if txn := d.heard(); !isAmong(one.Done, txn) && !isAmong(fresh, txn) {
					fresh = append(fresh, txn)
				}
			}
			fresh = fresh[:min(len(fresh), 16-len(one.Done))]
			one, other = hearAll(one, fresh), hearAll(other, d.guess(fresh))
			one, other = impl.Deliver(one, fresh).Replica, impl.Deliver(other, fresh).Replica
			what := fmt.Sprint("seed ", seed)
			wantSame(t, what+": Done", one.Done, other.Done, true)
			wantSameItems(t, what+": Base", one.Base, other.Base, true)
			for _, txn := range one.Done {
				wantReply(t, what, impl.FinalOf(one, txn.Session, txn.Seq), impl.FinalOf(other, txn.Session, txn.Seq))
			}
			if !isSameReplica(impl.DropTent(one).Replica, impl.DropTent(other).Replica) {
				t.Errorf("%s: %+v and %+v differ with Tent dropped", what, one, other)
			}
		}
		if len(one.Done) < 12 {
			t.Errorf("seed %d: %d Done alone", seed, len(one.Done))
		}
	}
}

// hearAll leaves out what has a code of the call.
func hearAll(r impl.Replica, list []impl.Txn) impl.Replica {
	for _, txn := range list {
		if got := impl.OptDeliver(r, txn); got.Code == impl.OK {
			r = got.Replica
		}
	}
	return r
}
