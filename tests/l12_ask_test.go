package tests

import (
	"fmt"
	"slices"
	"testing"

	"loop.example/g00631/impl"
)

// Promise 13, of what is asked of one node: Submit and AtNode. The other nodes, and the order, stay as they were.

// answered is what a cluster answers where its node at answers got.
func answered(c impl.Cluster, at int, got impl.NodeResult) impl.ClusterResult {
	if got.Code != impl.OK {
		return impl.ClusterResult{Code: got.Code}
	}
	return impl.ClusterResult{Answer: got.Answer, Cluster: withNode(c, at, got.Node)}
}

// wantSubmitted asks all that is promised of a Submit; c and txn are right.
func wantSubmitted(t *testing.T, what string, c impl.Cluster, at int, txn impl.Txn) impl.ClusterResult {
	t.Helper()
	heard := wantHeard(t, what, c.Order, c.Nodes[at], txn)
	return wantSaid(t, what, impl.Submit(c, int64(at), txn), answered(c, at, heard))
}

// wantAsked asks all that is promised of an AtNode; c is right, and what is 1 to 4.
func wantAsked(t *testing.T, what string, c impl.Cluster, at int, ask int64) impl.ClusterResult {
	t.Helper()
	var told impl.NodeResult
	switch n := c.Nodes[at]; ask {
	case 1:
		told = wantLearned(t, what, c.Order, n)
	case 2:
		told = wantSynced(t, what, c.Order, n)
	case 3:
		told = wantFallen(t, what, c.Order, n, 0)
	case 4:
		told = wantCaughtUp(t, what, c.Order, n)
	}
	return wantSaid(t, fmt.Sprint(what, ", what ", ask, " at ", at), impl.AtNode(c, int64(at), ask), answered(c, at, told))
}

func TestSubmitAtEveryCluster(t *testing.T) {
	codes, answers := map[int64]int{}, map[int64]int{}
	overClusters(func(what string, c impl.Cluster) {
		for at, n := range c.Nodes {
			heard := slices.Concat([]impl.Txn{own(60, put(1, 1), add(5, 5)), own(61, remove(19)), own(62, holds(1, 6))}, n.Replica.Done[:min(1, len(n.Replica.Done))], n.Replica.Tent[:min(1, len(n.Replica.Tent))])
			for _, txn := range heard {
				got := wantSubmitted(t, fmt.Sprint(what, ", ", txn.Id, " at ", at), c, at, txn)
				codes[got.Code]++
				answers[got.Answer]++
			}
		}
	})
	for what, count := range map[string]int{"heard": codes[impl.OK], "there already": codes[impl.ErrTaken], "no room": codes[impl.ErrFull], "no code": answers[impl.OK], "none": answers[impl.ErrNone], "not so": answers[impl.ErrAbort]} {
		if count < 50 {
			t.Errorf("%s: %d alone", what, count)
		}
	}
}

func TestSubmitByHand(t *testing.T) {
	fresh := impl.NewCluster().Cluster
	a, b := own(1, put(1, 5)), own(2, remove(9))
	heard := impl.Node{Replica: impl.Replica{Tent: []impl.Txn{a}, Undos: [][]impl.Undo{{wasNot(1)}}, Now: []impl.Item{item(1, 5)}}}
	for at := range 3 {
		got := impl.Submit(fresh, int64(at), a)
		wantCluster(t, fmt.Sprint("at ", at), got, 0, withNode(fresh, at, heard))
		wantClusterCode(t, fmt.Sprint("again at ", at), impl.Submit(got.Cluster, int64(at), a), impl.ErrTaken)
		other := (at + 1) % 3
		wantCluster(t, fmt.Sprint("at ", at, ", then at ", other), impl.Submit(got.Cluster, int64(other), a), 0, withNode(withNode(fresh, at, heard), other, heard))
		wantCluster(t, fmt.Sprint("what has a code, at ", at), impl.Submit(fresh, int64(at), b), impl.ErrNone, withNode(fresh, at, impl.Node{Replica: impl.Replica{Tent: []impl.Txn{b}, Undos: [][]impl.Undo{nil}}}))
	}
	c := variedCluster()
	wantClusterCode(t, "one that is Done at 0", impl.Submit(c, 0, c.Order[0].Batch[0]), impl.ErrTaken)
	wantCluster(t, "and not known at 1", impl.Submit(c, 1, c.Order[0].Batch[0]), 0, withNode(c, 1, nodeBy(c.Order, 0, 0, c.Nodes[1].Replica.Tent[0], c.Order[0].Batch[0])))
	wantClusterCode(t, "and Done at 2", impl.Submit(c, 2, c.Order[0].Batch[0]), impl.ErrTaken)
	wantCluster(t, "Answer is no Value", impl.Submit(c, 2, own(90, put(1, 9))), 0, withNode(c, 2, nodeBy(c.Order, 4, 3, own(90, put(1, 9)))))
	wantCluster(t, "what another one has in Tent", impl.Submit(c, 2, c.Nodes[0].Replica.Tent[0]), 0, withNode(c, 2, nodeBy(c.Order, 4, 3, c.Nodes[0].Replica.Tent[0])))
}

// A node that leaves its bounds is told ahead of what is wrong with the transaction, and that ahead of what the node has.
func TestSubmitCodes(t *testing.T) {
	order := fullOrder()
	full := nodeBy(order, 2, 1, ownTxns(70, 8)...)
	c := clusterOf(order, full, nodeBy(order, 2, 1), full)
	right := own(90, put(1, 1))
	for _, node := range slices.Concat([]int64{-1, 3}, wrongNodes, farNumbers) {
		for i, txn := range []impl.Txn{right, {}, own(90), own(90, put(0, 0)), own(90, impl.Act{Kind: 9}), ownTxns(1, 1)[0], ownTxns(70, 1)[0]} {
			wantClusterCode(t, fmt.Sprint("node ", node, ", ", i), impl.Submit(c, node, txn), impl.ErrRange)
		}
		wantClusterCode(t, fmt.Sprint("a new cluster, node ", node), impl.Submit(impl.NewCluster().Cluster, node, own(90)), impl.ErrRange)
	}
	codes := map[int64]int{}
	for i, txn := range allTxnCases() {
		if txn.code != impl.OK {
			wantClusterCode(t, txn.what, impl.Submit(c, int64(i%3), txn.txn), txn.code)
			codes[txn.code]++
		}
	}
	if codes[impl.ErrRange] == 0 || codes[impl.ErrMany] == 0 || codes[impl.ErrForm] == 0 {
		t.Errorf("too few of %v", codes)
	}
	for _, node := range []int64{0, 2} {
		wantClusterCode(t, "no room", impl.Submit(c, node, right), impl.ErrFull)
		wantClusterCode(t, "no room, one that is Done", impl.Submit(c, node, ownTxns(8, 1)[0]), impl.ErrTaken)
		wantClusterCode(t, "no room, one that was heard", impl.Submit(c, node, ownTxns(77, 1)[0]), impl.ErrTaken)
		wantClusterCode(t, "one that was heard, with a fault", impl.Submit(c, node, own(77)), impl.ErrMany)
	}
	wantSubmitted(t, "room at 1", c, 1, right)
	wantClusterCode(t, "the Id of one that is Done", impl.Submit(c, 1, txnOf(8, 9, 98, put(1, 1))), impl.ErrTaken)
	wantClusterCode(t, "the request of one that is Done", impl.Submit(c, 1, txnOf(90, 1+8%9, 1+8%99, put(1, 1))), impl.ErrTaken)
}

func TestAtNodeOfEveryCluster(t *testing.T) {
	codes, answers := map[int64]int{}, map[string]int{}
	overClusters(func(what string, c impl.Cluster) {
		for at := range 3 {
			for ask := int64(1); ask <= 4; ask++ {
				got := wantAsked(t, what, c, at, ask)
				codes[got.Code]++
				answers[fmt.Sprint(ask, " answers ", got.Answer > 0)]++
			}
		}
	})
	if codes[impl.OK] < 500 || codes[impl.ErrNone] < 50 || len(codes) != 2 {
		t.Errorf("too few of %v", codes)
	}
	for _, answer := range []string{"1 answers true", "1 answers false", "2 answers false", "3 answers false", "4 answers true", "4 answers false"} {
		if answers[answer] < 50 {
			t.Errorf("%s: too few of %v", answer, answers)
		}
	}
}

func TestAtNodeByHand(t *testing.T) {
	c := variedCluster()
	order, x, y, z := c.Order, own(70, put(1, 7)), own(71, remove(9)), own(72, put(5, 5), add(5, 1))
	wantCluster(t, "0 learns what brings none", impl.AtNode(c, 0, 1), 0, withNode(c, 0, nodeBy(order, 3, 1, x, y)))
	wantCluster(t, "0 writes down", impl.AtNode(c, 0, 2), 0, withNode(c, 0, nodeBy(order, 2, 2, x, y)))
	wantCluster(t, "0 falls", impl.AtNode(c, 0, 3), 0, withNode(c, 0, nodeBy(order, 1, 1)))
	wantCluster(t, "0 catches up", impl.AtNode(c, 0, 4), 2, withNode(c, 0, nodeBy(order, 4, 1, x, y)))
	wantCluster(t, "1 learns, and takes one back", impl.AtNode(c, 1, 1), 1, withNode(c, 1, nodeBy(order, 1, 0, z)))
	wantCluster(t, "1 writes down", impl.AtNode(c, 1, 2), 0, c)
	wantCluster(t, "1 falls", impl.AtNode(c, 1, 3), 0, withNode(c, 1, impl.Node{}))
	wantCluster(t, "1 catches up", impl.AtNode(c, 1, 4), 4, withNode(c, 1, nodeBy(order, 4, 0, z)))
	wantClusterCode(t, "2 knows all", impl.AtNode(c, 2, 1), impl.ErrNone)
	wantCluster(t, "2 writes down", impl.AtNode(c, 2, 2), 0, withNode(c, 2, nodeBy(order, 4, 4)))
	wantCluster(t, "2 falls", impl.AtNode(c, 2, 3), 0, withNode(c, 2, nodeBy(order, 3, 3)))
	wantCluster(t, "2 catches up with nothing", impl.AtNode(c, 2, 4), 0, c)
	fresh := impl.NewCluster().Cluster
	for at := range int64(3) {
		wantClusterCode(t, "nothing decided", impl.AtNode(fresh, at, 1), impl.ErrNone)
		for _, ask := range []int64{2, 3, 4} {
			wantCluster(t, fmt.Sprint("nothing decided, what ", ask), impl.AtNode(fresh, at, ask), 0, fresh)
		}
	}
}

// A crash keeps nothing beyond what is safe, however much was known.
func TestAtNodeCrashKeepsWhatIsSafe(t *testing.T) {
	order := fullOrder()
	for known := range int64(5) {
		for safe := range known + 1 {
			for at := range 3 {
				c := withNode(variedClusterOf(order), at, nodeBy(order, known, safe, ownTxns(70, 3)...))
				wantCluster(t, fmt.Sprint(safe, " of ", known, " at ", at), impl.AtNode(c, int64(at), 3), 0, withNode(c, at, nodeBy(order, safe, safe)))
			}
		}
	}
}

// variedClusterOf has nodes of order that know none, one and all.
func variedClusterOf(order []impl.Instance) impl.Cluster {
	decided := decidedByHand(order)
	return clusterOf(order, nodeBy(order, 0, 0, own(80, put(1, 1))), nodeBy(order, min(1, decided), 0), nodeBy(order, decided, decided/2, own(81, put(2, 1))))
}

// A node or a what that leaves its bounds is told ahead of a node that has nothing to learn.
func TestAtNodeCodes(t *testing.T) {
	all := slices.Concat([]int64{-1, 0, 1, 2, 3, 4, 5, 6}, wrongNodes, farNumbers)
	for _, c := range []impl.Cluster{impl.NewCluster().Cluster, variedCluster(), newNodes(fullOrder()), variedClusterOf(fullOrder())} {
		for _, node := range all {
			for _, ask := range all {
				got, what := impl.AtNode(c, node, ask), fmt.Sprint("what ", ask, " at ", node)
				if node < 0 || node > 2 || ask < 1 || ask > 4 {
					wantClusterCode(t, what, got, impl.ErrRange)
				} else if ask > 1 || c.Nodes[node].Known < decidedByHand(c.Order) {
					wantCode(t, what, got.Code, impl.OK)
				} else {
					wantClusterCode(t, what, got, impl.ErrNone)
				}
			}
		}
	}
}

// What one node is asked for shows at that one alone, one behind the other as at once.
func TestAsksOfDifferentNodesDoNotMeet(t *testing.T) {
	c := variedCluster()
	for first := range int64(3) {
		for second := range int64(3) {
			for ask := int64(2); ask <= 4; ask++ {
				for then := int64(2); then <= 4; then++ {
					if first != second {
						a := impl.AtNode(impl.AtNode(c, first, ask).Cluster, second, then)
						b := impl.AtNode(impl.AtNode(c, second, then).Cluster, first, ask)
						wantSameClusters(t, fmt.Sprint(ask, " at ", first, ", ", then, " at ", second), a.Cluster, b.Cluster, true)
					}
				}
			}
		}
	}
}
