package tests

import (
	"fmt"
	"slices"
	"testing"

	"loop.example/g00631/impl"
)

// Promise 15: of any two nodes what the one has done is a beginning of what the other one has; whatever happens, crashes as they come, the order that was is a beginning of the order that is. Here: what AuditCluster, DoneAt and ItemsAt tell of a cluster.

// auditByHand counts what a right cluster has.
func auditByHand(c impl.Cluster) impl.AuditResult {
	decided := decidedByHand(c.Order)
	audit := impl.AuditResult{Decided: decided, Done: int64(len(definiteByPairs(c.Order, decided))), Least: 1000}
	for _, n := range c.Nodes {
		if done := int64(len(n.Replica.Done)); done < audit.Least {
			audit.Least = done
		}
		for range n.Replica.Tent {
			audit.Tent++
		}
	}
	return audit
}

func wantAudit(t *testing.T, what string, c impl.Cluster, decided, done, least, tent int64) {
	t.Helper()
	if got, want := impl.AuditCluster(c), (impl.AuditResult{Decided: decided, Done: done, Least: least, Tent: tent}); got != want {
		t.Errorf("%s: got %+v, want %+v", what, got, want)
	}
}

func wantAuditCode(t *testing.T, what string, c impl.Cluster, code int64) {
	t.Helper()
	if got := impl.AuditCluster(c); got != (impl.AuditResult{Code: code}) {
		t.Errorf("%s: got %+v, want code %d and nothing else", what, got, code)
	}
}

// wantHad: what DoneAt and ItemsAt tell of each node of a right cluster.
func wantHad(t *testing.T, what string, c impl.Cluster) {
	t.Helper()
	for at, n := range c.Nodes {
		done := definiteByPairs(c.Order, n.Known)
		base := replicaBy(done, nil).Base
		wantTxns(t, fmt.Sprint(what, ": Done at ", at), impl.DoneAt(c, int64(at)), done...)
		wantItems(t, fmt.Sprint(what, ": items at ", at), impl.ItemsAt(c, int64(at)), int64(len(base)), base)
	}
}

// wantAudited asks all that is told of a right cluster.
func wantAudited(t *testing.T, what string, c impl.Cluster) {
	t.Helper()
	want := auditByHand(c)
	wantAudit(t, what, c, want.Decided, want.Done, want.Least, want.Tent)
	if want.Least > want.Done {
		t.Errorf("%s: %+v has nodes with more than the order", what, want)
	}
	wantHad(t, what, c)
}

func TestAuditsOfEveryCluster(t *testing.T) {
	met := map[string]int{}
	tell := func(what string, c impl.Cluster) {
		wantAudited(t, what, c)
		audit := auditByHand(c)
		met[fmt.Sprint("nothing Done ", audit.Done == 0)]++
		met[fmt.Sprint("all have all ", audit.Least == audit.Done)]++
		met[fmt.Sprint("one has nothing ", audit.Least == 0)]++
		met[fmt.Sprint("nothing ahead ", audit.Tent == 0)]++
	}
	overClusters(tell)
	for i, c := range votedClusters() {
		tell(fmt.Sprint("voted ", i), c)
	}
	for i, order := range rightOrders() {
		decided := decidedByHand(order)
		all := nodeBy(order, decided, decided)
		tell(fmt.Sprint("new nodes at ", i), newNodes(order))
		tell(fmt.Sprint("one that knows all at ", i), withNode(newNodes(order), i%3, all))
		tell(fmt.Sprint("two that know all at ", i), withNode(clusterOf(order, all, all, all), i%3, impl.Node{}))
		tell(fmt.Sprint("all know all at ", i), clusterOf(order, all, all, all))
	}
	for _, what := range []string{"nothing Done", "all have all", "one has nothing", "nothing ahead"} {
		if met[what+" true"] < 20 || met[what+" false"] < 20 {
			t.Errorf("%s: too few of %v", what, met)
		}
	}
}

func TestAuditClusterByHand(t *testing.T) {
	wantAudit(t, "a new cluster", impl.NewCluster().Cluster, 0, 0, 0, 0)
	wantAudit(t, "an open batch", newNodes([]impl.Instance{openBoard(ownTxns(1, 4)...)}), 0, 0, 0, 0)
	wantAudit(t, "decided against it", newNodes([]impl.Instance{refusedBoard(ownTxns(1, 4)...)}), 1, 0, 0, 0)
	wantAudit(t, "one, and nobody knows", newNodes(inBatches(ownTxns(1, 3))), 1, 3, 0, 0)
	wantAudit(t, "four, and nobody knows", newNodes(fullOrder()), 4, 16, 0, 0)
	wantAudit(t, "an open one behind three", newNodes(append(fullOrder()[:3], openBoard(ownTxns(13, 4)...))), 3, 12, 0, 0)
	// Of the second and the third batch none comes in, and of the last one all but the second.
	wantAudit(t, "known ones, and refused ones", variedCluster(), 4, 5, 0, 3)
	wantAudit(t, "of which one node is left", clusterOf(variedOrder(), nodeBy(variedOrder(), 4, 4), nodeBy(variedOrder(), 1, 0), nodeBy(variedOrder(), 3, 3)), 4, 5, 2, 0)
	all := nodeBy(fullOrder(), 4, 0)
	wantAudit(t, "all know all", clusterOf(fullOrder(), all, all, all), 4, 16, 16, 0)
	same := ownTxns(70, 2)
	heard := nodeBy(fullOrder(), 2, 1, same...)
	wantAudit(t, "all have heard the same", clusterOf(fullOrder(), heard, heard, heard), 4, 16, 8, 6)
	wantAudit(t, "with codes", clusterOf(failingOrder(), nodeBy(failingOrder(), 3, 3, own(70, remove(9))), nodeBy(failingOrder(), 1, 0, own(70, remove(9)), own(71, holds(9, 9))), nodeBy(failingOrder(), 2, 2)), 3, 6, 2, 3)
}

// Each of the four is another one by what it tells of alone.
func TestAuditClusterTellsEachAlone(t *testing.T) {
	order := fullOrder()[:2]
	at := func(order []impl.Instance) impl.Cluster {
		return clusterOf(order, nodeBy(order, 2, 2), nodeBy(order, 1, 0, ownTxns(70, 2)...), nodeBy(order, 2, 0, ownTxns(80, 1)...))
	}
	wantAudit(t, "as it was", at(order), 2, 8, 4, 3)
	wantAudit(t, "one more decided", at(append(slices.Clone(order), refusedBoard())), 3, 8, 4, 3)
	wantAudit(t, "two more decided", at(append(slices.Clone(order), refusedBoard(), refusedBoard(ownTxns(9, 2)...))), 4, 8, 4, 3)
	wantAudit(t, "one more open", at(append(slices.Clone(order), newBoard())), 2, 8, 4, 3)
	wantAudit(t, "a smaller batch ahead", clusterOf(inBatches(ownTxns(1, 4), ownTxns(5, 3)), nodeBy(order[:1], 1, 1), nodeBy(order[:1], 1, 0, ownTxns(70, 2)...), nodeBy(order[:1], 1, 0, ownTxns(80, 1)...)), 2, 7, 4, 3)
	wantAudit(t, "one who knows less", withNode(at(order), 1, nodeBy(order, 0, 0, ownTxns(70, 2)...)), 2, 8, 0, 3)
	wantAudit(t, "one who knows more", withNode(at(order), 1, nodeBy(order, 2, 0, ownTxns(70, 2)...)), 2, 8, 8, 3)
	wantAudit(t, "one who heard less", withNode(at(order), 1, nodeBy(order, 1, 0, ownTxns(70, 1)...)), 2, 8, 4, 2)
	wantAudit(t, "one who heard more", withNode(at(order), 0, nodeBy(order, 2, 2, ownTxns(90, 1)...)), 2, 8, 4, 4)
	wantAudit(t, "what is safe is not told", withNode(at(order), 2, nodeBy(order, 2, 2, ownTxns(80, 1)...)), 2, 8, 4, 3)
}

// The fewest are at each of the places, alone or at two of them; what is told is how many are Done, not how many are known.
func TestAuditClusterTellsTheLeast(t *testing.T) {
	order := fullOrder()
	order[2] = refusedBoard()
	done := []int64{0, 4, 8, 8, 12}
	for a := range int64(5) {
		for b := range int64(5) {
			for c := range int64(5) {
				least := min(done[a], done[b], done[c])
				wantAudit(t, fmt.Sprint(a, b, c), clusterOf(order, nodeBy(order, a, 0), nodeBy(order, b, b), nodeBy(order, c, c/2)), 4, 12, least, 0)
			}
		}
	}
}

// The Tents of all nodes count, at each place, alone and together, also where they have the same.
func TestAuditClusterCountsAllTents(t *testing.T) {
	for a := range 9 {
		for b := range 9 {
			for c := range 9 {
				if a%4 == 0 || b%4 == 0 && c%4 == 0 {
					what, sum := fmt.Sprint(a, ", ", b, " and ", c), int64(a+b+c)
					wantAudit(t, what, holding([]impl.Instance{newBoard()}, a, b, c), 0, 0, 0, sum)
					wantAudit(t, what+", the same ones", clusterOf([]impl.Instance{newBoard()}, nodeBy(nil, 0, 0, ownTxns(40, a)...), nodeBy(nil, 0, 0, ownTxns(40, b)...), nodeBy(nil, 0, 0, ownTxns(40, c)...)), 0, 0, 0, sum)
				}
			}
		}
	}
	full := nodeBy(fullOrder(), 4, 4, ownTxns(70, 8)...)
	wantAudit(t, "all that there can be", clusterOf(fullOrder(), full, full, full), 4, 16, 16, 24)
}

func TestAuditClusterTellsTheClusterFault(t *testing.T) {
	for _, c := range allClusterCases() {
		wantAuditCode(t, c.what, c.c, c.code)
	}
	wantAuditCode(t, "nothing", impl.Cluster{}, impl.ErrMany)
	wantAuditCode(t, "no nodes", clusterOf(fullOrder()), impl.ErrMany)
}

// What is told is Done and Base, and neither Tent nor Now.
func TestHadByHand(t *testing.T) {
	a, b, late := own(1, put(4, 5), put(2, 6)), own(2, add(4, 1)), own(3, put(4, 9), put(1, 1), remove(2))
	order := inBatches([]impl.Txn{a}, []impl.Txn{b})
	c := clusterOf(order, nodeBy(order, 1, 0, late), nodeBy(order, 0, 0, late), nodeBy(order, 2, 2, late))
	wantTxns(t, "0 has one", impl.DoneAt(c, 0), a)
	wantTxns(t, "1 has none", impl.DoneAt(c, 1))
	wantTxns(t, "2 has both", impl.DoneAt(c, 2), a, b)
	wantItems(t, "of one", impl.ItemsAt(c, 0), 2, []impl.Item{item(2, 6), item(4, 5)})
	wantItems(t, "of none", impl.ItemsAt(c, 1), 0, nil)
	wantItems(t, "of both", impl.ItemsAt(c, 2), 2, []impl.Item{item(2, 6), item(4, 6)})
	for at := range int64(3) {
		wantTxns(t, "a new cluster", impl.DoneAt(impl.NewCluster().Cluster, at))
		wantItems(t, "a new cluster", impl.ItemsAt(impl.NewCluster().Cluster, at), 0, nil)
		wantTxns(t, "nobody knows", impl.DoneAt(newNodes(fullOrder()), at))
		wantItems(t, "nobody knows", impl.ItemsAt(newNodes(fullOrder()), at), 0, nil)
		one := withNode(newNodes(fullOrder()), int(at), nodeBy(fullOrder(), 4, 2))
		wantTxns(t, "one knows all", impl.DoneAt(one, at), ownTxns(1, 16)...)
		wantItems(t, "one knows all", impl.ItemsAt(one, at), 1, []impl.Item{item(1, 16)})
		wantTxns(t, "the next one nothing", impl.DoneAt(one, (at+1)%3))
		wantItems(t, "the next one nothing", impl.ItemsAt(one, (at+1)%3), 0, nil)
	}
}

// From no item to as many as there can be, which is not as many as are Done.
func TestItemsAtOfEveryCount(t *testing.T) {
	for count := range 9 {
		var batches [][]impl.Txn
		var want []impl.Item
		for i := range int64(count) {
			batches = append(batches, []impl.Txn{own(i+1, put(2*i+3, 1), add(2*i+3, -i-2))})
			want = append(want, item(2*i+3, -i-1))
		}
		joined := append(slices.Concat(batches...), own(20, remove(20)), own(21, put(20, 7)), own(22, remove(20)))
		var order []impl.Instance
		for batch := range slices.Chunk(joined, 4) {
			order = append(order, takenBoard(batch...))
		}
		known := int64(len(order))
		c := clusterOf(order, impl.Node{}, nodeBy(order, known, 0, own(60, put(1, 1)), own(61, remove(3))), nodeBy(order, known, known, own(62, put(3, 500))))
		for _, at := range []int64{1, 2} {
			wantTxns(t, fmt.Sprint(count, " items"), impl.DoneAt(c, at), joined...)
			wantItems(t, fmt.Sprint(count, " items"), impl.ItemsAt(c, at), int64(count), want)
		}
		wantItems(t, fmt.Sprint("none of ", count), impl.ItemsAt(c, 0), 0, nil)
	}
}

// A node that leaves its bounds is told behind a fault of the cluster, whatever that is.
func TestHadCodes(t *testing.T) {
	far := slices.Concat([]int64{-1, 3}, wrongNodes, farNumbers)
	for _, c := range []impl.Cluster{impl.NewCluster().Cluster, variedCluster(), newNodes(fullOrder()), memoryCluster()} {
		for _, node := range far {
			wantTxnsCode(t, fmt.Sprint("Done at ", node), impl.DoneAt(c, node), impl.ErrRange)
			wantItemsCode(t, fmt.Sprint("items at ", node), impl.ItemsAt(c, node), impl.ErrRange)
		}
	}
	codes := map[int64]int{}
	for i, c := range allClusterCases() {
		for _, node := range []int64{far[i%len(far)], int64(i % 3)} {
			wantTxnsCode(t, fmt.Sprint(c.what, ", Done at ", node), impl.DoneAt(c.c, node), c.code)
			wantItemsCode(t, fmt.Sprint(c.what, ", items at ", node), impl.ItemsAt(c.c, node), c.code)
		}
		codes[c.code]++
	}
	for _, code := range []int64{impl.ErrForm, impl.ErrMany, impl.ErrTaken, impl.ErrState, impl.ErrVote} {
		if codes[code] < 10 {
			t.Errorf("code %d: too few of %v", code, codes)
		}
	}
	two := clusterOf(fullOrder(), impl.Node{}, impl.Node{})
	wantTxnsCode(t, "the third one of two", impl.DoneAt(two, 2), impl.ErrMany)
	wantItemsCode(t, "the third one of two", impl.ItemsAt(two, 2), impl.ErrMany)
	four := clusterOf(fullOrder(), make([]impl.Node, 4)...)
	wantTxnsCode(t, "the fourth one of four", impl.DoneAt(four, 3), impl.ErrMany)
	wantItemsCode(t, "the fourth one of four", impl.ItemsAt(four, 3), impl.ErrMany)
}
