package tests

import (
	"fmt"
	"math"
	"reflect"
	"testing"

	"loop.example/g00631/impl"
)

// Promise 12: behind a crash a node has a beginning of what it had, and all that was safe. Here: SyncNode and CrashNode, and what comes behind a fall.

// wantSynced asks all that is promised of a SyncNode; order and n are right.
func wantSynced(t *testing.T, what string, order []impl.Instance, n impl.Node) impl.NodeResult {
	t.Helper()
	got := impl.SyncNode(order, n)
	wantNode(t, what+", written down", got, 0, impl.Node{Known: n.Known, Safe: n.Known, Replica: n.Replica})
	wantCode(t, what+": NodeFault", impl.NodeFault(order, got.Node), impl.OK)
	wantNode(t, what+", written down again", impl.SyncNode(order, got.Node), 0, got.Node)
	return got
}

// wantFallen asks all that is promised of a CrashNode; order and n are right, and keep is not below 0.
func wantFallen(t *testing.T, what string, order []impl.Instance, n impl.Node, keep int64) impl.NodeResult {
	t.Helper()
	got := impl.CrashNode(order, n, keep)
	known := n.Known
	if keep < n.Known-n.Safe {
		known = n.Safe + keep
	}
	wantNode(t, what, got, 0, nodeBy(order, known, known))
	if got.Code != impl.OK {
		return got
	}
	wantCode(t, what+": NodeFault", impl.NodeFault(order, got.Node), impl.OK)
	wantBool(t, what+": a beginning of what it had", impl.IsPrefix(got.Node.Replica.Done, n.Replica.Done), true)
	wantBool(t, what+": all that was safe", impl.IsPrefix(definiteByPairs(order, n.Safe), got.Node.Replica.Done), true)
	wantSameItems(t, what+": Base is what Done comes to", got.Node.Replica.Base, impl.ExecAll(nil, got.Node.Replica.Done).Items, true)
	wantSameItems(t, what+": Now is Base", got.Node.Replica.Now, got.Node.Replica.Base, true)
	for _, txn := range got.Node.Replica.Done {
		wantReply(t, what+": answered as it was", impl.FinalOf(got.Node.Replica, txn.Session, txn.Seq), impl.FinalOf(n.Replica, txn.Session, txn.Seq))
	}
	wantNode(t, what+", and again", impl.CrashNode(order, got.Node, 0), 0, got.Node)
	wantNode(t, what+", and again with all kept", impl.CrashNode(order, got.Node, math.MaxInt64), 0, got.Node)
	return got
}

func TestSyncOfEveryNode(t *testing.T) {
	overNodes(func(what string, order []impl.Instance, n impl.Node) {
		synced := wantSynced(t, what, order, n)
		wantNode(t, what+", and a fall", impl.CrashNode(order, synced.Node, 0), 0, nodeBy(order, n.Known, n.Known))
	})
}

func TestSyncByHand(t *testing.T) {
	order := variedOrder()
	x := own(70, add(1, 4))
	n := nodeBy(order, 3, 1, x)
	wantNode(t, "two to write down", impl.SyncNode(order, n), 0, nodeBy(order, 3, 3, x))
	wantNode(t, "nothing to write down", impl.SyncNode(order, nodeBy(order, 3, 3, x)), 0, nodeBy(order, 3, 3, x))
	wantNode(t, "a new one", impl.SyncNode(order, impl.Node{}), 0, impl.Node{})
	wantNode(t, "where nothing is decided", impl.SyncNode([]impl.Instance{newBoard()}, nodeBy(nil, 0, 0, x)), 0, nodeBy(nil, 0, 0, x))
	wantNode(t, "what is not known yet is not written down", impl.SyncNode(order, nodeBy(order, 1, 0)), 0, nodeBy(order, 1, 1))
}

func TestCrashOfEveryNode(t *testing.T) {
	overNodes(func(what string, order []impl.Instance, n impl.Node) {
		lost := n.Known - n.Safe
		for keep := range lost + 3 {
			wantFallen(t, fmt.Sprint(what, ", keep ", keep), order, n, keep)
		}
		for _, keep := range []int64{5, 256, 1 << 32, math.MaxInt64 - 4, math.MaxInt64 - 1, math.MaxInt64} {
			wantNode(t, fmt.Sprint(what, ", keep ", keep), impl.CrashNode(order, n, keep), 0, nodeBy(order, n.Known, n.Known))
		}
		for _, keep := range []int64{-1, -2, -n.Safe - 1, -1 << 32, math.MinInt64, math.MinInt64 + 1} {
			wantNodeCode(t, fmt.Sprint(what, ", keep ", keep), impl.CrashNode(order, n, keep), impl.ErrRange)
		}
	})
}

func TestCrashByHand(t *testing.T) {
	order := variedOrder()
	a, b, c := order[0].Batch[0], order[0].Batch[1], order[3].Batch[3]
	d, e, x := order[3].Batch[0], order[3].Batch[2], own(70, add(1, 100))
	base, last := []impl.Item{item(1, 6), item(2, 6)}, []impl.Item{item(1, 7), item(3, 9)}
	few := impl.Replica{Done: []impl.Txn{a, b}, Base: base, Now: base}
	all := impl.Replica{Done: []impl.Txn{a, b, d, e, c}, Base: last, Now: last}
	n := nodeBy(order, 4, 1, x)
	wantNode(t, "nothing kept", impl.CrashNode(order, n, 0), 0, impl.Node{Known: 1, Safe: 1, Replica: few})
	wantNode(t, "one kept", impl.CrashNode(order, n, 1), 0, impl.Node{Known: 2, Safe: 2, Replica: few})
	wantNode(t, "two kept", impl.CrashNode(order, n, 2), 0, impl.Node{Known: 3, Safe: 3, Replica: few})
	wantNode(t, "all kept", impl.CrashNode(order, n, 3), 0, impl.Node{Known: 4, Safe: 4, Replica: all})
	wantNode(t, "more than there is", impl.CrashNode(order, n, 4), 0, impl.Node{Known: 4, Safe: 4, Replica: all})
	wantNode(t, "the most", impl.CrashNode(order, n, math.MaxInt64), 0, impl.Node{Known: 4, Safe: 4, Replica: all})
	wantNodeCode(t, "fewer than none", impl.CrashNode(order, n, -1), impl.ErrRange)
	wantNodeCode(t, "the fewest", impl.CrashNode(order, n, math.MinInt64), impl.ErrRange)
	wantNode(t, "nothing safe, nothing kept", impl.CrashNode(order, nodeBy(order, 4, 0, x), 0), 0, impl.Node{})
	wantNode(t, "all safe", impl.CrashNode(order, nodeBy(order, 4, 4, x), 0), 0, impl.Node{Known: 4, Safe: 4, Replica: all})
	wantNode(t, "a new one", impl.CrashNode(order, impl.Node{}, 0), 0, impl.Node{})
	wantNode(t, "guesses alone", impl.CrashNode([]impl.Instance{newBoard()}, nodeBy(nil, 0, 0, a, x), 9), 0, impl.Node{})
	wantNodeCode(t, "a new one, fewer than none", impl.CrashNode([]impl.Instance{newBoard()}, impl.Node{}, -1), impl.ErrRange)
}

// Twice: the second time nothing falls any more, as what was left is safe.
func TestCrashTwice(t *testing.T) {
	order := fullOrder()
	for keep := range int64(6) {
		first := impl.CrashNode(order, nodeBy(order, 4, 0, ownTxns(70, 8)...), keep)
		wantNode(t, fmt.Sprint("keep ", keep), first, 0, nodeBy(order, min(keep, 4), min(keep, 4)))
		for again := range int64(3) {
			wantNode(t, fmt.Sprint("keep ", keep, ", then ", again), impl.CrashNode(order, first.Node, again), 0, first.Node)
		}
	}
}

// Behind a fall a node learns, hears and catches up as one that never knew more.
func TestBehindAFall(t *testing.T) {
	overNodes(func(what string, order []impl.Instance, n impl.Node) {
		for keep := range n.Known - n.Safe + 1 {
			fallen := impl.CrashNode(order, n, keep).Node
			wantSynced(t, what+", fallen", order, fallen)
			wantLearned(t, what+", fallen", order, fallen)
			for _, txn := range append(n.Replica.Tent[:len(n.Replica.Tent):len(n.Replica.Tent)], definiteByPairs(order, n.Known)...) {
				wantHeard(t, fmt.Sprint(what, ", fallen, heard ", txn.Id), order, fallen, txn)
			}
		}
	})
}

// From behind a crash a node that catches up is the one that never fell, but for its guesses, and for what is safe of it.
func TestCatchUpFromBehindACrash(t *testing.T) {
	overNodes(func(what string, order []impl.Instance, n impl.Node) {
		decided := decidedByHand(order)
		never := impl.CatchUp(order, n).Node
		for keep := range n.Known - n.Safe + 1 {
			got := wantCaughtUp(t, what+", fallen", order, impl.CrashNode(order, n, keep).Node)
			want := impl.Node{Known: never.Known, Safe: n.Safe + keep, Replica: impl.DropTent(never.Replica).Replica}
			wantNode(t, fmt.Sprint(what, ", keep ", keep), got, decided-n.Safe-keep, want)
			wantNode(t, fmt.Sprint(what, ", keep ", keep, ", written down"), impl.SyncNode(order, got.Node), 0, nodeBy(order, decided, decided))
		}
	})
}

// What fell may be heard again, and is done at once as it was; learned, it is done for good.
func TestWhatFellIsHeardAgain(t *testing.T) {
	order := variedOrder()
	n := nodeBy(order, 1, 0)
	fallen := impl.CrashNode(order, n, 0).Node
	for _, txn := range order[0].Batch {
		wantNodeCode(t, "ahead of the fall", impl.Hear(order, n, txn), impl.ErrTaken)
		fallen = wantHeard(t, "behind it", order, fallen, txn).Node
	}
	wantSameItems(t, "Now", fallen.Replica.Now, n.Replica.Now, true)
	wantNode(t, "learned again", impl.Learn(order, fallen), 0, n)
	wantNode(t, "fallen again", impl.CrashNode(order, fallen, 1), 0, impl.Node{})
}

// What falls is cleared: nothing of it stands behind the length of a list that is answered either.
func TestNothingOfWhatFellIsLeft(t *testing.T) {
	overNodes(func(what string, order []impl.Instance, n impl.Node) {
		for keep := range n.Known - n.Safe + 1 {
			for _, list := range listsIn(reflect.ValueOf(impl.CrashNode(order, n, keep))) {
				for at := list.Len(); at < list.Cap(); at++ {
					if spare := list.Slice(0, list.Cap()).Index(at); !spare.IsZero() {
						t.Fatalf("%s, keep %d: %+v stands behind the length", what, keep, spare)
					}
				}
			}
		}
	})
}
