package tests

import (
	"fmt"
	"slices"
	"testing"

	"loop.example/g00631/impl"
)

// Promise 12: a node that learns has a longer beginning of the order, and what it had stays; a node that catches up has the whole order. Here: Learn, CatchUp and Hear.

// wantLearned asks all that is promised of a Learn; order and n are right.
func wantLearned(t *testing.T, what string, order []impl.Instance, n impl.Node) impl.NodeResult {
	t.Helper()
	got := impl.Learn(order, n)
	if n.Known == decidedByHand(order) {
		wantNodeCode(t, what, got, impl.ErrNone)
		return got
	}
	done, coming := definiteByPairs(order, n.Known+1), comingBy(order, n.Known)
	plan := planByPairs(n.Replica.Tent, coming)
	wantNode(t, what, got, plan.Back, impl.Node{Known: n.Known + 1, Safe: n.Safe, Replica: replicaBy(done, plan.Keep)})
	if got.Code != impl.OK {
		return got
	}
	wantCode(t, what+": NodeFault", impl.NodeFault(order, got.Node), impl.OK)
	wantBool(t, what+": what was there is a beginning", impl.IsPrefix(n.Replica.Done, got.Node.Replica.Done), true)
	wantTxns(t, what+": the order", impl.DefiniteOf(order, got.Node.Known), got.Node.Replica.Done...)
	for _, txn := range n.Replica.Done {
		wantReply(t, what+": Done already", impl.FinalOf(got.Node.Replica, txn.Session, txn.Seq), impl.FinalOf(n.Replica, txn.Session, txn.Seq))
	}
	for _, txn := range n.Replica.Tent[:plan.Commit] {
		wantReply(t, what+": guessed right", impl.FinalOf(got.Node.Replica, txn.Session, txn.Seq), impl.TentOf(n.Replica, txn.Id))
	}
	return got
}

func TestLearnOfEveryNode(t *testing.T) {
	learned, none, took := 0, 0, 0
	overNodes(func(what string, order []impl.Instance, n impl.Node) {
		got := wantLearned(t, what, order, n)
		switch {
		case got.Code == impl.ErrNone:
			none++
		case got.Answer > 0:
			took++
		default:
			learned++
		}
	})
	if learned < 100 || none < 100 || took < 100 {
		t.Errorf("too few: %d learned, %d times nothing, %d took something back", learned, none, took)
	}
}

func TestLearnByHand(t *testing.T) {
	order := variedOrder()
	a, b, c := order[0].Batch[0], order[0].Batch[1], order[3].Batch[3]
	d, e := order[3].Batch[0], order[3].Batch[2]
	base := []impl.Item{item(1, 6), item(2, 6)}
	done := []impl.Txn{a, b}
	first := impl.Learn(order, impl.Node{})
	wantNode(t, "two come", first, 0, impl.Node{Known: 1, Replica: impl.Replica{Done: done, Base: base, Now: base}})
	second := impl.Learn(order, first.Node)
	wantNode(t, "decided against the batch", second, 0, impl.Node{Known: 2, Replica: impl.Replica{Done: done, Base: base, Now: base}})
	third := impl.Learn(order, second.Node)
	wantNode(t, "only such as are there", third, 0, impl.Node{Known: 3, Replica: impl.Replica{Done: done, Base: base, Now: base}})
	fourth := impl.Learn(order, third.Node)
	last := []impl.Item{item(1, 7), item(3, 9)}
	wantNode(t, "all but one that is there", fourth, 0, impl.Node{Known: 4, Replica: impl.Replica{Done: []impl.Txn{a, b, d, e, c}, Base: last, Now: last}})
	wantReply(t, "one with a code where it stands", impl.FinalOf(fourth.Node.Replica, d.Session, d.Seq), impl.ReplyResult{Answer: impl.ErrAbort})
	wantNodeCode(t, "nothing more", impl.Learn(order, fourth.Node), impl.ErrNone)
	for _, none := range [][]impl.Instance{{newBoard()}, {openBoard(a, b)}, {boardBy([]impl.Txn{a}, "...", "111 111")}} {
		wantNodeCode(t, "nothing decided", impl.Learn(none, impl.Node{}), impl.ErrNone)
	}
	wantNodeCode(t, "nothing decided, with guesses", impl.Learn([]impl.Instance{newBoard()}, nodeBy(nil, 0, 0, a, b)), impl.ErrNone)
	some := append(variedOrder()[:1], openBoard(c))
	wantNodeCode(t, "the open one", impl.Learn(some, first.Node), impl.ErrNone)
}

// What was guessed: Answer is how many were taken back, and what is not in the order yet stays behind what came.
func TestLearnWithGuesses(t *testing.T) {
	order := variedOrder()
	a, b, x := order[0].Batch[0], order[0].Batch[1], own(70, add(1, 100))
	otherActs, otherId, onlyId := own(2, add(1, 3)), txnOf(60, b.Session, b.Seq, b.Acts...), txnOf(2, 9, 9, b.Acts...)
	cases := []struct {
		what string
		tent []impl.Txn
		back int64
		keep []impl.Txn
		now  []impl.Item
	}{
		{"none", nil, 0, nil, []impl.Item{item(1, 6), item(2, 6)}},
		{"right", []impl.Txn{a, b}, 0, nil, []impl.Item{item(1, 6), item(2, 6)}},
		{"right, and more", []impl.Txn{a, b, x}, 0, []impl.Txn{x}, []impl.Item{item(1, 106), item(2, 6)}},
		{"right, and fewer", []impl.Txn{a}, 0, nil, []impl.Item{item(1, 6), item(2, 6)}},
		{"another order", []impl.Txn{b, a}, 2, nil, []impl.Item{item(1, 6), item(2, 6)}},
		{"wrong", []impl.Txn{x}, 1, []impl.Txn{x}, []impl.Item{item(1, 106), item(2, 6)}},
		{"wrong between", []impl.Txn{a, x, b}, 2, []impl.Txn{x}, []impl.Item{item(1, 106), item(2, 6)}},
		{"wrong ahead", []impl.Txn{x, a, b}, 3, []impl.Txn{x}, []impl.Item{item(1, 106), item(2, 6)}},
		{"the last one alone", []impl.Txn{b}, 1, nil, []impl.Item{item(1, 6), item(2, 6)}},
		{"other acts", []impl.Txn{a, otherActs, x}, 2, []impl.Txn{x}, []impl.Item{item(1, 106), item(2, 6)}},
		{"another Id", []impl.Txn{a, otherId}, 1, nil, []impl.Item{item(1, 6), item(2, 6)}},
		{"the Id alone", []impl.Txn{a, onlyId}, 1, nil, []impl.Item{item(1, 6), item(2, 6)}},
	}
	for _, c := range cases {
		base := []impl.Item{item(1, 6), item(2, 6)}
		got := wantLearned(t, c.what, order, nodeBy(order, 0, 0, c.tent...))
		if got.Answer != c.back {
			t.Errorf("%s: %d were taken back, want %d", c.what, got.Answer, c.back)
		}
		wantSame(t, c.what+", Tent", got.Node.Replica.Tent, c.keep, true)
		wantSameItems(t, c.what+", Base", got.Node.Replica.Base, base, true)
		wantSameItems(t, c.what+", Now", got.Node.Replica.Now, c.now, true)
		refused := wantLearned(t, c.what+", then what was refused", order, got.Node)
		wantNode(t, c.what+", then what was refused", refused, 0, impl.Node{Known: 2, Replica: got.Node.Replica})
	}
}

// An instance that brings none leaves the replica as it is, guesses and all.
func TestLearnOfWhatBringsNone(t *testing.T) {
	order := variedOrder()
	for known := int64(1); known <= 2; known++ {
		for i, tent := range tentsAt(order, known) {
			for safe := range known + 1 {
				n := nodeBy(order, known, safe, tent...)
				wantNode(t, fmt.Sprint("known ", known, ", guess ", i, ", safe ", safe), impl.Learn(order, n), 0, impl.Node{Known: known + 1, Safe: safe, Replica: n.Replica})
			}
		}
	}
	empty := []impl.Instance{refusedBoard(), refusedBoard(ownTxns(1, 4)...), refusedBoard()}
	n := nodeBy(empty, 0, 0, ownTxns(1, 8)...)
	for known := range int64(3) {
		got := impl.Learn(empty, n)
		wantNode(t, fmt.Sprint("nothing but refused ones, ", known), got, 0, impl.Node{Known: known + 1, Replica: n.Replica})
		n = got.Node
	}
}

// An order brings at most what there is room for, each one once and none that is Done: so whatever is learned, Deliver has no code to tell.
func TestLearnHasRoomForAll(t *testing.T) {
	overlapping := inBatches(ownTxns(1, 4), ownTxns(3, 4), ownTxns(5, 4), ownTxns(7, 4))
	for i, order := range [][]impl.Instance{fullOrder(), overlapping, inBatches(ownTxns(1, 4), ownTxns(1, 4), ownTxns(1, 4), ownTxns(1, 4)), inBatches(someTxns(4), someTxns(3), someTxns(2), ownTxns(9, 4))} {
		for _, tent := range [][]impl.Txn{nil, ownTxns(50, 8), ownTxns(1, 8), ownTxns(4, 8), ownTxns(9, 8)} {
			n := nodeBy(order, 0, 0, tent...)
			for known := range 4 {
				n = wantLearned(t, fmt.Sprint("order ", i, ", ", known, " known"), order, n).Node
			}
			wantNodeCode(t, fmt.Sprint("order ", i, ", all known"), impl.Learn(order, n), impl.ErrNone)
		}
	}
	wantNode(t, "16 Done", impl.CatchUp(fullOrder(), impl.Node{}), 4, impl.Node{Known: 4, Replica: replicaBy(ownTxns(1, 16), nil)})
}

// The outcome counts, whoever of the nodes decided, and in whichever round.
func TestLearnHangsOnTheOutcome(t *testing.T) {
	batch := ownTxns(1, 2)
	for _, x := range []impl.Instance{boardBy(batch, "1..", "11. 11."), boardBy(batch, "..1", "11. 11."), boardBy(batch, "111", "111 111"), boardBy(batch, ".1.", "10. 22.", "11. 11.")} {
		wantNode(t, "taken", impl.Learn([]impl.Instance{x}, impl.Node{}), 0, impl.Node{Known: 1, Replica: replicaBy(batch, nil)})
	}
	for _, x := range []impl.Instance{boardBy(batch, "0..", "00. 00."), boardBy(batch, "..0", "010 020", "00. 00."), boardBy(nil, "000", "000 000")} {
		wantNode(t, "refused", impl.Learn([]impl.Instance{x}, impl.Node{}), 0, impl.Node{Known: 1})
	}
}

// wantCaughtUp asks all that is promised of a CatchUp; order and n are right.
func wantCaughtUp(t *testing.T, what string, order []impl.Instance, n impl.Node) impl.NodeResult {
	t.Helper()
	got, decided := impl.CatchUp(order, n), decidedByHand(order)
	step, often := n, int64(0)
	for step.Known < decided {
		step = wantLearned(t, what, order, step).Node
		often++
		if t.Failed() {
			return got
		}
	}
	wantNode(t, what+", caught up", got, often, step)
	if got.Answer != decided-n.Known || got.Node.Known != decided || got.Node.Safe != n.Safe {
		t.Errorf("%s: got %+v, of %d decided, from %+v", what, got, decided, n)
	}
	wantSame(t, what+": the whole order", got.Node.Replica.Done, definiteByPairs(order, decided), true)
	wantCode(t, what+": NodeFault", impl.NodeFault(order, got.Node), impl.OK)
	wantNode(t, what+", again", impl.CatchUp(order, got.Node), 0, got.Node)
	wantNodeCode(t, what+", nothing left", impl.Learn(order, got.Node), impl.ErrNone)
	return got
}

func TestCatchUpOfEveryNode(t *testing.T) {
	often := map[int64]int{}
	overNodes(func(what string, order []impl.Instance, n impl.Node) { often[wantCaughtUp(t, what, order, n).Answer]++ })
	for count := range int64(5) {
		if often[count] < 20 {
			t.Errorf("%d learned: too few of %v", count, often)
		}
	}
}

func TestCatchUpByHand(t *testing.T) {
	order := variedOrder()
	a, b, c := order[0].Batch[0], order[0].Batch[1], order[3].Batch[3]
	d, e := order[3].Batch[0], order[3].Batch[2]
	whole, last := []impl.Txn{a, b, d, e, c}, []impl.Item{item(1, 7), item(3, 9)}
	all := impl.Node{Known: 4, Replica: impl.Replica{Done: whole, Base: last, Now: last}}
	wantNode(t, "all left", impl.CatchUp(order, impl.Node{}), 4, all)
	wantNode(t, "one left", impl.CatchUp(order, nodeBy(order, 3, 0)), 1, all)
	wantNode(t, "none left", impl.CatchUp(order, all), 0, all)
	all.Safe = 2
	wantNode(t, "what is safe stays", impl.CatchUp(order, nodeBy(order, 2, 2)), 2, all)
	x := own(70, add(1, 100))
	guessed := impl.Node{Known: 4, Replica: impl.Replica{Done: whole, Base: last, Tent: []impl.Txn{x}, Undos: [][]impl.Undo{{was(1, 7)}}, Now: []impl.Item{item(1, 107), item(3, 9)}}}
	wantNode(t, "with a guess that is not in the order", impl.CatchUp(order, nodeBy(order, 0, 0, x)), 4, guessed)
	wantNode(t, "with guesses that are", impl.CatchUp(order, nodeBy(order, 0, 0, e, c, a, x, b)), 4, guessed)
	wantNode(t, "nothing decided", impl.CatchUp([]impl.Instance{newBoard()}, impl.Node{}), 0, impl.Node{})
	open := nodeBy(nil, 0, 0, a, x)
	wantNode(t, "nothing decided, with guesses", impl.CatchUp([]impl.Instance{openBoard(a)}, open), 0, open)
	three := append(variedOrder()[:3], openBoard(d, e))
	wantNode(t, "up to the open one", impl.CatchUp(three, impl.Node{}), 3, nodeBy(order, 3, 0))
}

// wantHeard asks all that is promised of a Hear; order, n and txn are right.
func wantHeard(t *testing.T, what string, order []impl.Instance, n impl.Node, txn impl.Txn) impl.NodeResult {
	t.Helper()
	got, early := impl.Hear(order, n, txn), wantEarly(t, what, n.Replica, txn)
	if early.Code != impl.OK {
		wantNodeCode(t, what, got, early.Code)
		return got
	}
	reply := repliesBy(n.Replica.Done, n.Replica.Tent, []impl.Txn{txn})[len(n.Replica.Done)+len(n.Replica.Tent)]
	tent := append(slices.Clone(n.Replica.Tent), txn)
	wantNode(t, what, got, reply.Answer, impl.Node{Known: n.Known, Safe: n.Safe, Replica: replicaBy(n.Replica.Done, tent)})
	wantCode(t, what+": NodeFault", impl.NodeFault(order, got.Node), impl.OK)
	return got
}

func TestHearOfEveryNode(t *testing.T) {
	codes, answers := map[int64]int{}, map[int64]int{}
	overNodes(func(what string, order []impl.Instance, n impl.Node) {
		heard := []impl.Txn{own(60, put(1, 1), add(5, 5)), own(61, remove(19)), own(62, holds(1, 6))}
		heard = slices.Concat(heard, n.Replica.Done[:min(2, len(n.Replica.Done))], n.Replica.Tent[:min(2, len(n.Replica.Tent))])
		if n.Known < decidedByHand(order) {
			heard = append(heard, comingBy(order, n.Known)...)
		}
		for _, txn := range heard {
			got := wantHeard(t, fmt.Sprint(what, ", heard ", txn.Id), order, n, txn)
			codes[got.Code]++
			answers[got.Answer]++
		}
	})
	for what, count := range map[string]int{"heard": codes[impl.OK], "there already": codes[impl.ErrTaken], "no room": codes[impl.ErrFull], "no code": answers[impl.OK], "none": answers[impl.ErrNone], "not so": answers[impl.ErrAbort]} {
		if count < 50 {
			t.Errorf("%s: %d alone", what, count)
		}
	}
}

func TestHearByHand(t *testing.T) {
	order := variedOrder()
	n := nodeBy(order, 1, 1)
	base, x := []impl.Item{item(1, 6), item(2, 6)}, own(70, add(1, 4), remove(2))
	got := impl.Hear(order, n, x)
	heard := impl.Node{Known: 1, Safe: 1, Replica: impl.Replica{Done: order[0].Batch, Base: base, Tent: []impl.Txn{x}, Undos: [][]impl.Undo{{was(1, 6), was(2, 6)}}, Now: []impl.Item{item(1, 10)}}}
	wantNode(t, "a new one", got, 0, heard)
	wantNodeCode(t, "again", impl.Hear(order, got.Node, x), impl.ErrTaken)
	wantNodeCode(t, "its request under another Id", impl.Hear(order, got.Node, txnOf(71, x.Session, x.Seq, put(1, 1))), impl.ErrTaken)
	wantNodeCode(t, "its Id for another request", impl.Hear(order, got.Node, txnOf(70, 9, 98, put(1, 1))), impl.ErrTaken)
	for _, done := range order[0].Batch {
		wantNodeCode(t, "one that is done", impl.Hear(order, n, done), impl.ErrTaken)
	}
	refused, none := order[1].Batch[0], own(72, remove(9))
	wantNode(t, "one that was refused", impl.Hear(order, nodeBy(order, 2, 0), refused), 0, nodeBy(order, 2, 0, refused))
	wantNode(t, "one that has a code then", impl.Hear(order, n, none), impl.ErrNone, nodeBy(order, 1, 1, none))
	wantNode(t, "Answer is no Value", impl.Hear(order, n, own(73, put(1, 9))), 0, nodeBy(order, 1, 1, own(73, put(1, 9))))
	wantNode(t, "one that is in the order, and is not known yet", impl.Hear(order, impl.Node{}, order[0].Batch[0]), 0, nodeBy(order, 0, 0, order[0].Batch[0]))
	wantNode(t, "where nothing is decided, and there is nothing to delete", impl.Hear([]impl.Instance{newBoard()}, impl.Node{}, x), impl.ErrNone, nodeBy(nil, 0, 0, x))
}

func TestHearTellsTheCodesOfOptDeliver(t *testing.T) {
	order := fullOrder()
	full := nodeBy(order, 2, 1, ownTxns(70, 8)...)
	for _, c := range allTxnCases() {
		if c.code != impl.OK {
			wantNodeCode(t, c.what, impl.Hear(order, nodeBy(order, 2, 1), c.txn), c.code)
			wantNodeCode(t, c.what+", no room", impl.Hear(order, full, c.txn), c.code)
		}
	}
	wantNodeCode(t, "no room", impl.Hear(order, full, own(80, put(1, 1))), impl.ErrFull)
	wantNodeCode(t, "no room, one that is in the order", impl.Hear(order, full, ownTxns(9, 1)[0]), impl.ErrFull)
	wantNodeCode(t, "no room, one that is done", impl.Hear(order, full, ownTxns(8, 1)[0]), impl.ErrTaken)
	wantNodeCode(t, "no room, one that was heard", impl.Hear(order, full, ownTxns(77, 1)[0]), impl.ErrTaken)
	wantNodeCode(t, "one that was heard, with a fault", impl.Hear(order, full, own(77)), impl.ErrMany)
	for count := range 8 {
		wantHeard(t, fmt.Sprint(count, " in Tent"), order, nodeBy(order, 4, 2, ownTxns(70, count)...), own(80, put(1, 1)))
	}
}

// One that is heard and then learned is answered for good as it was ahead of its time, where it was guessed right.
func TestHearThenLearn(t *testing.T) {
	for i, order := range nodeOrders() {
		for known := range decidedByHand(order) {
			n := nodeBy(order, known, 0)
			coming := comingBy(order, known)
			answers := map[int64]int64{}
			for _, txn := range coming {
				got := wantHeard(t, fmt.Sprint("order ", i), order, n, txn)
				answers[txn.Id], n = got.Answer, got.Node
			}
			got := wantLearned(t, fmt.Sprint("order ", i), order, n)
			wantNode(t, fmt.Sprint("order ", i, ", all guessed"), got, 0, nodeBy(order, known+1, 0))
			for _, txn := range coming {
				wantCode(t, fmt.Sprint("order ", i, ", ", txn.Id), impl.FinalOf(got.Node.Replica, txn.Session, txn.Seq).Answer, answers[txn.Id])
				wantNodeCode(t, fmt.Sprint("order ", i, ", heard behind it: ", txn.Id), impl.Hear(order, got.Node, txn), impl.ErrTaken)
			}
		}
	}
}
