package tests

import (
	"fmt"
	"reflect"
	"slices"
	"testing"

	"loop.example/g00631/impl"
)

// Promise 16: what was asked of a cluster whose board is free is done everywhere, and once. Here: DriveAll.

// settledByHand lets each node of a right cluster know all that is decided, and have it safe.
func settledByHand(c impl.Cluster) impl.Cluster {
	decided := decidedByHand(c.Order)
	done := definiteByPairs(c.Order, decided)
	then := impl.Cluster{Order: c.Order}
	for _, n := range c.Nodes {
		then.Nodes = append(then.Nodes, nodeBy(c.Order, decided, decided, notIn(n.Replica.Tent, done)...))
	}
	return then
}

// notIn are those of list for which none of done stands.
func notIn(list, done []impl.Txn) []impl.Txn {
	return slices.DeleteFunc(slices.Clone(list), func(txn impl.Txn) bool {
		return slices.ContainsFunc(done, func(other impl.Txn) bool { return standsFor(txn, other) })
	})
}

// allByText is what a DriveAll has to answer at a right cluster, by the chapter's words.
func allByText(c impl.Cluster, mask int64) impl.DriveResult {
	if offer := offerByHand(c, 4); offer.Code == impl.OK {
		c = offer.Cluster
	}
	end := endByText(c, mask, 1)
	if end.Code == impl.OK {
		end.Cluster = settledByHand(end.Cluster)
	}
	return end
}

// wantAll asks all that is promised of a DriveAll; c is right.
func wantAll(t *testing.T, what string, c impl.Cluster, mask int64) impl.DriveResult {
	t.Helper()
	what = fmt.Sprint(what, ", all by ", mask)
	got := impl.DriveAll(c, mask)
	wantDrive(t, what, got, allByText(c, mask))
	if got.Code != impl.OK || t.Failed() {
		return got
	}
	then := got.Cluster
	wantCode(t, what+": the cluster behind it", impl.ClusterFault(then), impl.OK)
	wantInt(t, what+": the outcome", impl.OutcomeOf(lastOf(then)), got.Value)
	wantSafe(t, what, then)
	wantBool(t, what+": one order", impl.OneOrder(then), true)
	wantBool(t, what+": later", impl.IsLater(c, then), true)
	wantAllHaveAll(t, what, then)
	wantNothingLost(t, what, c, then)
	wantDrive(t, what+", and again", impl.DriveAll(then, quorums[(mask+1)%4]), impl.DriveResult{Value: got.Value, Cluster: then})
	return got
}

// wantAllHaveAll: every node knows all, has it safe, and has done the whole order, each one of it once.
func wantAllHaveAll(t *testing.T, what string, c impl.Cluster) {
	t.Helper()
	decided, done := int64(len(c.Order)), definiteByPairs(c.Order, decidedByHand(c.Order))
	audit := impl.AuditCluster(c)
	if audit.Decided != decided || audit.Done != int64(len(done)) || audit.Least != audit.Done {
		t.Errorf("%s: %+v", what, audit)
	}
	wantOnceEach(t, what, done)
	for at, n := range c.Nodes {
		if n.Known != decided || n.Safe != decided {
			t.Errorf("%s: node %d knows %d, and has %d safe, of %d", what, at, n.Known, n.Safe, decided)
		}
		wantTxns(t, fmt.Sprint(what, ": Done at ", at), impl.DoneAt(c, int64(at)), done...)
		base := impl.ItemsAt(c, 0)
		wantItems(t, fmt.Sprint(what, ": items at ", at), impl.ItemsAt(c, int64(at)), base.Value, base.Items)
		if !reflect.DeepEqual(emptyAsNil(n.Replica), emptyAsNil(replicaBy(done, n.Replica.Tent))) {
			t.Errorf("%s: the replica of %d is %+v", what, at, n.Replica)
		}
	}
}

// wantNothingLost: what a node had done, or was asked for, is done there, or still waits, or another one stands for it.
func wantNothingLost(t *testing.T, what string, was, then impl.Cluster) {
	t.Helper()
	for at, n := range was.Nodes {
		r := then.Nodes[at].Replica
		wantBool(t, fmt.Sprint(what, ": what was Done at ", at), impl.IsPrefix(n.Replica.Done, r.Done), true)
		for _, txn := range n.Replica.Tent {
			if !hasWhole(r.Tent, txn) && !impl.HasTxn(r.Done, txn) || impl.HasTxn(r.Tent, txn) && impl.HasTxn(r.Done, txn) {
				t.Errorf("%s: %+v at %d is in %+v", what, txn, at, r)
			}
		}
	}
}

func TestDriveAllOfEveryCluster(t *testing.T) {
	met := map[string]int{}
	tell := func(what string, c impl.Cluster) {
		for _, mask := range quorums {
			got := wantAll(t, what, c, mask)
			met[fmt.Sprint("rounds ", got.Rounds, ", value ", got.Value, ", code ", got.Code)]++
			met[fmt.Sprint("offered ", impl.OfferBatch(c, 4).Code)]++
			met[fmt.Sprint("more Done ", got.Code == impl.OK && impl.AuditCluster(got.Cluster).Done > impl.AuditCluster(c).Done)]++
		}
	}
	for i, c := range drivenClusters() {
		tell(fmt.Sprint("cluster ", i), c)
	}
	overClusters(tell)
	for count := range 4 {
		for i, x := range freeBoards() {
			tell(fmt.Sprint("free ", i, " behind ", count), holding(freeOrder(count+1, x), 8, count, 5))
		}
	}
	for _, what := range []string{"rounds 0, value 0, code 0", "rounds 0, value 1, code 0", "rounds 1, value 0, code 0", "rounds 1, value 1, code 0", "rounds 2, value 1, code 0", "rounds 0, value 0, code 8",
		"offered 0", "offered 4", "offered 6", "more Done true", "more Done false"} {
		if met[what] < 10 {
			t.Errorf("%s: too few of %v", what, met)
		}
	}
}

// A batch has at most the first four of what the candidate has heard; the others wait, at every node.
func TestDriveAllByCount(t *testing.T) {
	for turn, candidate := range turnOf {
		for count := range 9 {
			c := holding(freeOrder(turn, newBoard()), 1, 1, 1)
			tent := ownTxns(20, count)
			c.Nodes[candidate] = nodeBy(c.Order, 0, 0, tent...)
			for _, mask := range quorums {
				what := fmt.Sprint(count, " in turn ", turn)
				got := wantAll(t, what, c, mask)
				offered := tent[:min(count, 4)]
				order := slices.Clone(c.Order)
				order[turn-1] = lastOf(got.Cluster)
				wantSame(t, what+": the batch", lastOf(got.Cluster).Batch, offered, true)
				want := impl.DriveResult{Rounds: 1, Value: int64(min(count, 1)), Cluster: impl.Cluster{Order: order}}
				for at, n := range c.Nodes {
					left := n.Replica.Tent
					if at == candidate {
						left = tent[len(offered):]
					}
					want.Cluster.Nodes = append(want.Cluster.Nodes, nodeBy(order, int64(turn), int64(turn), left...))
				}
				wantDrive(t, what, got, want)
				wantTxns(t, what+": Done", impl.DoneAt(got.Cluster, 1), slices.Concat(ownTxns(1, 4*(turn-1)), offered)...)
			}
		}
	}
}

func TestDriveAllByHand(t *testing.T) {
	fresh := impl.NewCluster().Cluster
	none := newNodes([]impl.Instance{boardBy(nil, "00.", "00. 00.", "00. ...")})
	empty := impl.Node{Known: 1, Safe: 1}
	wantDrive(t, "a new cluster", impl.DriveAll(fresh, 3), impl.DriveResult{Rounds: 1, Cluster: clusterOf(none.Order, empty, empty, empty)})
	a, b, gone := own(1, put(1, 5)), own(2, add(1, 1), put(2, 7)), own(3, remove(9))
	asked := clusterOf(fresh.Order, nodeBy(nil, 0, 0, a, gone, b), nodeBy(nil, 0, 0, b), nodeBy(nil, 0, 0, gone, own(4, holds(1, 6))))
	order := []impl.Instance{boardBy([]impl.Txn{a, gone, b}, ".11", ".11 .11", ".11 ...")}
	got := wantAll(t, "asked", asked, 6)
	done := impl.Node{Known: 1, Safe: 1, Replica: impl.Replica{Done: []impl.Txn{a, gone, b}, Base: []impl.Item{item(1, 6), item(2, 7)}, Now: []impl.Item{item(1, 6), item(2, 7)}}}
	later := done
	later.Replica.Tent, later.Replica.Undos = []impl.Txn{own(4, holds(1, 6))}, [][]impl.Undo{nil}
	wantDrive(t, "asked", got, impl.DriveResult{Rounds: 1, Value: 1, Cluster: clusterOf(order, done, done, later)})
	wantReply(t, "what had a code", impl.FinalOf(got.Cluster.Nodes[1].Replica, gone.Session, gone.Seq), impl.ReplyResult{Answer: impl.ErrNone})
	wantReply(t, "what holds behind it, and did not ahead of it", impl.TentOf(got.Cluster.Nodes[2].Replica, 4), impl.ReplyResult{Value: 6})
}

// Where nothing can be offered the votes go on about what is there: no batch, or the batch that is there.
func TestDriveAllWithNothingToOffer(t *testing.T) {
	others := holding([]impl.Instance{newBoard()}, 0, 3, 8)
	got := wantAll(t, "nothing at the candidate", others, 3)
	order := []impl.Instance{boardBy(nil, "00.", "00. 00.", "00. ...")}
	wantDrive(t, "nothing at the candidate", got, impl.DriveResult{Rounds: 1, Cluster: clusterOf(order, nodeBy(order, 1, 1), nodeBy(order, 1, 1, ownTxns(50, 3)...), nodeBy(order, 1, 1, ownTxns(60, 8)...))})
	batch := ownTxns(90, 2)
	there := holding([]impl.Instance{boardBy(batch, "...", "... ...")}, 2, 0, 1)
	order = []impl.Instance{boardBy(batch, "111", "111 111", "111 ...")}
	got = wantAll(t, "a batch is there", there, 7)
	wantDrive(t, "a batch is there", got, impl.DriveResult{Rounds: 1, Value: 1, Cluster: clusterOf(order, nodeBy(order, 1, 1, ownTxns(40, 2)...), nodeBy(order, 1, 1), nodeBy(order, 1, 1, ownTxns(60, 1)...))})
	order = []impl.Instance{boardBy(batch, "1..", "110 112", "1.. ...")}
	known := clusterOf(order, nodeBy(order, 1, 0, ownTxns(40, 2)...), nodeBy(order, 0, 0, batch[1]), nodeBy(order, 0, 0))
	got = wantAll(t, "all is decided", known, 5)
	wantDrive(t, "all is decided", got, impl.DriveResult{Value: 1, Cluster: clusterOf(order, nodeBy(order, 1, 1, ownTxns(40, 2)...), nodeBy(order, 1, 1), nodeBy(order, 1, 1))})
}

// Who reported ahead of the batch was against it; the coin is 1, and so it is taken where the others agree on nothing.
func TestDriveAllOfABoardWithVotes(t *testing.T) {
	for i, a := range []struct {
		rounds  []string
		decided string
		mask    int64
		turn    int64
		value   int64
		then    []string
		behind  string
	}{
		{[]string{"0.. ..."}, "...", 3, 2, 1, []string{"01. 22.", "11. 11.", "11. ..."}, "11."},
		{[]string{"0.. ..."}, "...", 7, 1, 1, []string{"011 111", "111 ..."}, "111"},
		{[]string{"0.. ..."}, "...", 6, 1, 1, []string{"011 .11", ".11 ..."}, ".11"},
		{[]string{"00. ..."}, "...", 3, 1, 0, []string{"00. 00.", "00. ..."}, "00."},
		{[]string{"00. ..."}, "...", 7, 1, 0, []string{"001 000", "000 ..."}, "000"},
		{[]string{"00. 0.."}, "...", 6, 2, 1, []string{"001 022", ".11 .11", ".11 ..."}, ".11"},
		{[]string{"00. 00."}, "...", 7, 1, 0, []string{"001 000", "000 ..."}, "000"},
		{[]string{"00. 00.", "0.. ..."}, "0..", 7, 0, 0, []string{"00. 00.", "0.. ..."}, "0.."},
		{[]string{"000 000"}, "..0", 3, 0, 0, []string{"000 000"}, "..0"},
	} {
		c := holding([]impl.Instance{boardBy(nil, a.decided, a.rounds...)}, 5, 1, 0)
		what, batch := fmt.Sprint("board ", i), ownTxns(40, 4)
		got := wantAll(t, what, c, a.mask)
		order := []impl.Instance{boardBy(batch, a.behind, a.then...)}
		want := impl.DriveResult{Rounds: a.turn, Value: a.value, Cluster: clusterOf(order, nodeBy(order, 1, 1, ownTxns(40, 5)...), nodeBy(order, 1, 1, ownTxns(50, 1)...), nodeBy(order, 1, 1))}
		if a.value == 1 {
			want.Cluster.Nodes[0] = nodeBy(order, 1, 1, ownTxns(44, 1)...)
		}
		wantDrive(t, what, got, want)
	}
}

// With the code of DriveEnd all else is zero, and what was offered shows nowhere.
func TestDriveAllCodes(t *testing.T) {
	three := []string{"010 222", "010 222", "010 222"}
	boards := []impl.Instance{boardBy(ownTxns(31, 1), "...", "010 222", "0.. ..."), boardBy(ownTxns(31, 1), "...", append(three, "110 122")...), boardBy(nil, "...", "00. ...", "... ..."), boardBy(nil, "...", "000 000", "... ...")}
	for i, x := range boards {
		for ahead := range 4 {
			for _, counts := range [][]int{{0, 0, 0}, {1, 8, 4}} {
				c := holding(freeOrder(ahead+1, x), counts...)
				was := copied(c).(impl.Cluster)
				for _, mask := range quorums {
					what := fmt.Sprint("board ", i, " behind ", ahead, " by ", mask)
					wantDriveCode(t, what, impl.DriveAll(c, mask), impl.ErrState)
					wantAll(t, what, c, mask)
				}
				for _, mask := range slices.Concat([]int64{-1, 0, 1, 2, 4, 8}, wrongMasks, farNumbers) {
					wantDriveCode(t, fmt.Sprint("board ", i, " by ", mask), impl.DriveAll(c, mask), impl.ErrVote)
				}
				wantSameClusters(t, "the cluster then", c, was, true)
			}
		}
	}
}

// Whatever the nodes knew and guessed ahead of it, behind it they differ in what still waits alone.
func TestDriveAllLevelsAllNodes(t *testing.T) {
	order := append(fullOrder()[:3:3], newBoard())
	late := ownTxns(13, 4)
	guesses := [][]impl.Txn{nil, late, late[:1], late[1:], {late[1], late[0], late[3], late[2]}, slices.Concat(ownTxns(70, 2), late), slices.Concat(late, ownTxns(70, 2)), {own(13, put(5, 5)), own(75, remove(1))}}
	for known := range int64(4) {
		for i, guess := range guesses {
			for safe := range known + 1 {
				c := clusterOf(order, nodeBy(order, 3, 0, late...), nodeBy(order, known, safe, guess...), nodeBy(order, 3-known, 0, guesses[(i+3)%len(guesses)]...))
				what := fmt.Sprint("known ", known, ", safe ", safe, ", guess ", i)
				got := wantAll(t, what, c, quorums[i%4])
				wantTxns(t, what, impl.DoneAt(got.Cluster, 2), ownTxns(1, 16)...)
				for at := range got.Cluster.Nodes {
					dropped := impl.DropTent(got.Cluster.Nodes[at].Replica).Replica
					if !impl.SameReplicas(dropped, impl.DropTent(got.Cluster.Nodes[0].Replica).Replica) {
						t.Errorf("%s: node %d has %+v", what, at, dropped)
					}
					fallen := impl.AtNode(got.Cluster, int64(at), 3)
					wantTxns(t, what+": behind a crash", impl.DoneAt(fallen.Cluster, int64(at)), ownTxns(1, 16)...)
				}
			}
		}
	}
}

// DriveAll does what its parts do, one by one.
func TestDriveAllIsItsParts(t *testing.T) {
	overClusters(func(what string, c impl.Cluster) {
		mask := quorums[len(lastOf(c).Batch)%4]
		offered := c
		if offer := impl.OfferBatch(c, 4); offer.Code == impl.OK {
			offered = offer.Cluster
		}
		want := impl.DriveEnd(offered, mask, 1)
		for node := range int64(3) {
			if want.Code == impl.OK {
				want.Cluster = impl.AtNode(impl.AtNode(want.Cluster, node, 4).Cluster, node, 2).Cluster
			}
		}
		wantDrive(t, what, impl.DriveAll(c, mask), want)
	})
}
