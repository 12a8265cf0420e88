package tests

import (
	"fmt"
	"math"
	"slices"
	"testing"

	"loop.example/g00631/impl"
)

// Promise 13: what is offered is what the candidate has; each one is the candidate in its turn. Here: OfferBatch and OpenNext.

// offerByHand is what an OfferBatch has to answer at a right cluster.
func offerByHand(c impl.Cluster, most int64) impl.ClusterResult {
	tent := c.Nodes[candidateByHand(c)].Replica.Tent
	switch last := lastOf(c); {
	case most < 1 || most > 4:
		return impl.ClusterResult{Code: impl.ErrRange}
	case len(tent) == 0:
		return impl.ClusterResult{Code: impl.ErrNone}
	case last.Has:
		return impl.ClusterResult{Code: impl.ErrTaken}
	default:
		last.Has = true
		for at, txn := range tent {
			if int64(at) < most {
				last.Batch = append(last.Batch, txn)
			}
		}
		return impl.ClusterResult{Answer: int64(len(last.Batch)), Cluster: withLast(c, last)}
	}
}

// wantOffered asks all that is promised of an OfferBatch; c is right.
func wantOffered(t *testing.T, what string, c impl.Cluster, most int64) impl.ClusterResult {
	t.Helper()
	got := wantSaid(t, what, impl.OfferBatch(c, most), offerByHand(c, most))
	if got.Code != impl.OK || t.Failed() {
		return got
	}
	batch, tent := lastOf(got.Cluster).Batch, c.Nodes[impl.CandidateOf(c).Value].Replica.Tent
	wantBool(t, what+": the beginning of what the candidate has", impl.IsPrefix(batch, tent), true)
	if int64(len(batch)) != got.Answer || got.Answer != min(most, int64(len(tent))) {
		t.Errorf("%s: %d of %d offered, and %d answered", what, len(batch), len(tent), got.Answer)
	}
	for at := range c.Nodes {
		wantSameNodes(t, fmt.Sprint(what, ": the node ", at), got.Cluster.Nodes[at], c.Nodes[at], true)
	}
	wantClusterCode(t, what+", and again", impl.OfferBatch(got.Cluster, most), impl.ErrTaken)
	return got
}

// freeOrder has count instances, the last one without a batch.
func freeOrder(count int, last impl.Instance) []impl.Instance {
	return append(fullOrder()[:count-1:count-1], last)
}

// freeBoards have no batch: a new one, and some with votes, or decided.
func freeBoards() []impl.Instance {
	return []impl.Instance{newBoard(), openBoard(), refusedBoard(), boardBy(nil, "0..", "00. 00.", "0.. ..."), boardBy(nil, "000", "000 000", "000 000", "000 000", "000 000")}
}

// holding has nodes of order that know none of it, with so many in their Tents; no two have the same.
func holding(order []impl.Instance, counts ...int) impl.Cluster {
	c := impl.Cluster{Order: order}
	for at, count := range counts {
		c.Nodes = append(c.Nodes, nodeBy(order, 0, 0, ownTxns(40+10*int64(at), count)...))
	}
	return c
}

func TestOfferBatchOfEveryCluster(t *testing.T) {
	codes := map[int64]int{}
	overClusters(func(what string, c impl.Cluster) {
		for most := int64(-1); most <= 5; most++ {
			codes[wantOffered(t, fmt.Sprint(what, ", most ", most), c, most).Code]++
		}
		last := lastOf(c)
		last.Has, last.Batch, last.Rounds, last.Decided = false, nil, newBoard().Rounds, newBoard().Decided
		if free := withLast(c, last); impl.ClusterFault(free) == impl.OK {
			for most := int64(1); most <= 4; most++ {
				codes[wantOffered(t, fmt.Sprint(what, ", freed, most ", most), free, most).Code]++
			}
		}
	})
	for _, code := range []int64{impl.OK, impl.ErrRange, impl.ErrNone, impl.ErrTaken} {
		if codes[code] < 50 {
			t.Errorf("code %d: too few of %v", code, codes)
		}
	}
}

// Fewer than most, as many, and more, with each one as the candidate, and whatever was said ahead of the batch.
func TestOfferBatchByCount(t *testing.T) {
	for count := 1; count <= 4; count++ {
		for i, last := range freeBoards() {
			order := freeOrder(count, last)
			for size := range 9 {
				counts := []int{3, 3, 3}
				counts[turnOf[count]] = size
				for most := int64(1); most <= 4; most++ {
					wantOffered(t, fmt.Sprint(count, " instances, board ", i, ", most ", most, " of ", size), holding(order, counts...), most)
				}
			}
		}
	}
}

func TestOfferBatchByHand(t *testing.T) {
	a, b, c := own(3, put(1, 5), add(2, 2)), own(1, remove(9)), own(2, put(1, 7))
	one := clusterOf([]impl.Instance{newBoard()}, nodeBy(nil, 0, 0, a, b, c), nodeBy(nil, 0, 0, c), nodeBy(nil, 0, 0, b, a))
	wantCluster(t, "one of three", impl.OfferBatch(one, 1), 1, withLast(one, boardBy([]impl.Txn{a}, "...", "... ...")))
	wantCluster(t, "two of three, in their order", impl.OfferBatch(one, 2), 2, withLast(one, boardBy([]impl.Txn{a, b}, "...", "... ...")))
	wantCluster(t, "as many", impl.OfferBatch(one, 3), 3, withLast(one, boardBy([]impl.Txn{a, b, c}, "...", "... ...")))
	wantCluster(t, "more than there are", impl.OfferBatch(one, 4), 3, withLast(one, boardBy([]impl.Txn{a, b, c}, "...", "... ...")))
	two := clusterOf([]impl.Instance{refusedBoard(), openBoard()}, one.Nodes...)
	wantCluster(t, "the second one's turn, behind votes", impl.OfferBatch(two, 4), 1, withLast(two, boardBy([]impl.Txn{c}, "...", "00. 00.")))
	three := clusterOf([]impl.Instance{refusedBoard(), refusedBoard(), newBoard()}, one.Nodes...)
	wantCluster(t, "the third one's turn", impl.OfferBatch(three, 4), 2, withLast(three, boardBy([]impl.Txn{b, a}, "...", "... ...")))
	four := clusterOf([]impl.Instance{refusedBoard(), refusedBoard(), refusedBoard(), refusedBoard()}, one.Nodes...)
	wantCluster(t, "the first one's turn again, behind the end", impl.OfferBatch(four, 2), 2, withLast(four, boardBy([]impl.Txn{a, b}, "0.0", "000 00.")))
	eight := holding([]impl.Instance{newBoard()}, 8, 0, 0)
	wantCluster(t, "the most of the most", impl.OfferBatch(eight, 4), 4, withLast(eight, boardBy(ownTxns(40, 4), "...", "... ...")))
}

// A candidate without anything has nothing to offer, whatever the others have.
func TestOfferBatchOfAnEmptyCandidate(t *testing.T) {
	for count, candidate := range turnOf {
		for i, last := range append(freeBoards(), openBoard(ownTxns(31, 3)...), takenBoard(ownTxns(31, 1)...)) {
			counts := []int{8, 8, 8}
			counts[candidate] = 0
			c, what := holding(freeOrder(count, last), counts...), fmt.Sprint(count, " instances, board ", i)
			for most := int64(1); most <= 4; most++ {
				wantClusterCode(t, what, impl.OfferBatch(c, most), impl.ErrNone)
			}
			for _, most := range slices.Concat([]int64{-1, 0, 5, 6}, farNumbers) {
				wantClusterCode(t, fmt.Sprint(what, ", most ", most), impl.OfferBatch(c, most), impl.ErrRange)
			}
		}
	}
	order := fullOrder()
	done := clusterOf(freeOrder(4, newBoard()), nodeBy(order, 3, 0), nodeBy(order, 3, 0, ownTxns(70, 8)...), impl.Node{})
	wantClusterCode(t, "what is Done is not offered", impl.OfferBatch(done, 4), impl.ErrNone)
}

func TestOfferBatchCodes(t *testing.T) {
	for i, last := range []impl.Instance{boardBy(ownTxns(1, 1), "...", "... ..."), openBoard(ownTxns(31, 3)...), takenBoard(ownTxns(31, 1)...), refusedBoard(ownTxns(31, 4)...), fullBoard()} {
		for count := 1; count <= 4; count++ {
			c := holding(freeOrder(count, last), 3, 3, 3)
			for most := int64(1); most <= 4; most++ {
				wantClusterCode(t, fmt.Sprint("board ", i, " of ", count, " has a batch"), impl.OfferBatch(c, most), impl.ErrTaken)
			}
			for _, most := range slices.Concat([]int64{-1, 0, 5}, farNumbers, []int64{math.MinInt64, math.MaxInt64}) {
				wantClusterCode(t, fmt.Sprint("board ", i, " of ", count, ", most ", most), impl.OfferBatch(c, most), impl.ErrRange)
				wantClusterCode(t, fmt.Sprint("free, most ", most), impl.OfferBatch(holding(freeOrder(count, newBoard()), 3, 3, 3), most), impl.ErrRange)
			}
		}
	}
}

// openByHand is what an OpenNext has to answer at a right cluster.
func openByHand(c impl.Cluster) impl.ClusterResult {
	switch {
	case decidedByHand(c.Order) < int64(len(c.Order)):
		return impl.ClusterResult{Code: impl.ErrState}
	case len(c.Order) == 4:
		return impl.ClusterResult{Code: impl.ErrFull}
	}
	c.Order = append(slices.Clone(c.Order), newBoard())
	return impl.ClusterResult{Cluster: c}
}

// wantOpened asks all that is promised of an OpenNext; c is right.
func wantOpened(t *testing.T, what string, c impl.Cluster) impl.ClusterResult {
	t.Helper()
	got := wantSaid(t, what+", the next one", impl.OpenNext(c), openByHand(c))
	if got.Code == impl.OK {
		wantInt(t, what+": the next one's turn", impl.CandidateOf(got.Cluster), (impl.CandidateOf(c).Value+1)%3)
		wantClusterCode(t, what+": one behind it", impl.OpenNext(got.Cluster), impl.ErrState)
		wantGrown(t, what, c.Order, got.Cluster.Order)
	}
	return got
}

func TestOpenNext(t *testing.T) {
	codes := map[int64]int{}
	overClusters(func(what string, c impl.Cluster) { codes[wantOpened(t, what, c).Code]++ })
	for i, order := range rightOrders() {
		codes[wantOpened(t, fmt.Sprint("order ", i), newNodes(order)).Code]++
		codes[wantOpened(t, fmt.Sprint("order ", i, ", nodes that know it"), variedClusterOf(order)).Code]++
	}
	for _, code := range []int64{impl.OK, impl.ErrState, impl.ErrFull} {
		if codes[code] < 20 {
			t.Errorf("code %d: too few of %v", code, codes)
		}
	}
}

func TestOpenNextByHand(t *testing.T) {
	wantClusterCode(t, "a new one", impl.OpenNext(impl.NewCluster().Cluster), impl.ErrState)
	for count := 1; count <= 3; count++ {
		c := variedClusterOf(decidedOrder(0, count))
		wantCluster(t, fmt.Sprint(count, " decided"), impl.OpenNext(c), 0, clusterOf(append(decidedOrder(0, count), newBoard()), c.Nodes...))
		wantClusterCode(t, fmt.Sprint(count, ", the last one open"), impl.OpenNext(newNodes(append(decidedOrder(0, count-1), openBoard()))), impl.ErrState)
	}
	wantClusterCode(t, "four, the last one open", impl.OpenNext(newNodes(append(decidedOrder(0, 3), openBoard(ownTxns(31, 3)...)))), impl.ErrState)
	wantClusterCode(t, "four decided", impl.OpenNext(variedClusterOf(fullOrder())), impl.ErrFull)
	one := newNodes([]impl.Instance{boardBy(nil, "..0", "00. 00.")})
	wantCluster(t, "decided by one", impl.OpenNext(one), 0, newNodes([]impl.Instance{one.Order[0], newBoard()}))
	wantClusterCode(t, "agreed, and decided by none", impl.OpenNext(newNodes([]impl.Instance{boardBy(nil, "...", "000 000")})), impl.ErrState)
}
