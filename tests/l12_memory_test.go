package tests

import (
	"fmt"
	"slices"
	"testing"

	"loop.example/g00631/impl"
)

// Promise 1, of chapter 12.

// manyClusters are right and wrong, with lists that are nil, empty and too long.
func manyClusters() []impl.Cluster {
	list := []impl.Cluster{{}, {Order: []impl.Instance{}, Nodes: []impl.Node{}}, impl.NewCluster().Cluster, newNodes(nil), newNodes(make([]impl.Instance, 300)), clusterOf(fullOrder(), make([]impl.Node, 300)...)}
	list = append(list, variedCluster(), variedClusterOf(fullOrder()), variedClusterOf(failingOrder()), holding(freeOrder(2, newBoard()), 1, 5, 0), holding([]impl.Instance{newBoard()}, 3, 3, 8))
	for i, c := range rightClusters() {
		if i%23 == 0 {
			list = append(list, c)
		}
	}
	for i, c := range votedClusters() {
		if i%13 == 0 {
			list = append(list, c)
		}
	}
	for i, c := range allClusterCases() {
		if i%211 == 0 {
			list = append(list, c.c)
		}
	}
	for i, r := range manyReplicas() {
		if i%6 == 0 {
			list = append(list, withNode(newNodes([]impl.Instance{newBoard()}), i%3, impl.Node{Replica: r}))
		}
	}
	return list
}

func callsOfCluster(what string, c impl.Cluster) []call {
	calls := []call{call1("ClusterFault "+what, impl.ClusterFault, c), call1("OpenNext "+what, impl.OpenNext, c), call1("CandidateOf "+what, impl.CandidateOf, c), call2("SameClusters and itself "+what, impl.SameClusters, c, c)}
	for most := int64(0); most <= 5; most++ {
		calls = append(calls, call2(fmt.Sprint("OfferBatch ", what, ", most ", most), impl.OfferBatch, c, most))
	}
	for node := int64(-1); node <= 3; node++ {
		for ask := int64(0); ask <= 5; ask++ {
			if node >= 0 && node <= 2 || ask == 2 {
				calls = append(calls, call3(fmt.Sprint("AtNode ", what, ", ", node, ", what ", ask), impl.AtNode, c, node, ask))
			}
		}
		for i, txn := range []impl.Txn{{}, {Acts: []impl.Act{}}, own(90, put(1, 1), remove(1)), own(91, remove(19)), ownTxns(1, 1)[0]} {
			calls = append(calls, call3(fmt.Sprint("Submit ", what, ", ", node, ", ", i), impl.Submit, c, node, txn))
		}
		for _, v := range []impl.Vote{report(0, node, 0), report(0, node, 1), report(1, node, 0), proposal(0, node, 1), proposal(1, node, 0), ending(node, 0), ending(node, 1), {Node: node}} {
			mask := 3 + (node+v.Value)%5
			calls = append(calls, call3(fmt.Sprintf("CastVote %s, %+v by %d", what, v, mask), impl.CastVote, c, v, mask))
		}
	}
	return calls
}

func TestClustersLeaveAllElseAlone(t *testing.T) {
	list := manyClusters()
	for i, c := range list {
		calls := callsOfCluster(fmt.Sprint(i), c)
		calls = append(calls, call0("NewCluster", impl.NewCluster), call2(fmt.Sprint("SameClusters ", i, " and the next one"), impl.SameClusters, c, list[(i+1)%len(list)]))
		checkCalls(t, calls)
	}
}

// Every number as a node, as most, as what, as a mask, and as what a vote, a transaction and a node have.
func TestClustersAnswerAtEveryNumber(t *testing.T) {
	var calls []call
	right := holding([]impl.Instance{refusedBoard(), boardBy(nil, "...", "00. 0..")}, 2, 3, 1)
	for _, n := range manyInts {
		what := fmt.Sprint(n)
		calls = append(calls, call2("OfferBatch "+what, impl.OfferBatch, right, n), call3("Submit at "+what, impl.Submit, right, n, own(90, put(1, 1))), call3("AtNode at "+what, impl.AtNode, right, n, 4), call3("AtNode, what "+what, impl.AtNode, right, 1, n))
		for i, txn := range []impl.Txn{named(n, 9, 98, 0), named(90, n, 1, 0), named(90, 9, n, 0), named(90, 9, 98, n), own(60, impl.Act{Kind: n, Key: n, Value: n})} {
			calls = append(calls, call3(fmt.Sprint("Submit ", n, " as ", i), impl.Submit, right, 1, txn))
		}
		for i, v := range []impl.Vote{{Kind: n}, report(n, 2, 0), report(0, n, 0), report(0, 2, n), proposal(n, 1, 0), proposal(0, n, 0), proposal(0, 1, n), ending(n, 0), ending(0, n), {Kind: 3, Round: n}, {Kind: n, Round: n, Node: n, Value: n}} {
			calls = append(calls, call3(fmt.Sprint("CastVote ", n, " as ", i), impl.CastVote, right, v, 3))
		}
		for _, v := range []impl.Vote{report(0, 2, 0), proposal(0, 1, 0), ending(0, 0)} {
			calls = append(calls, call3(fmt.Sprint("CastVote of ", v.Kind, " by ", n), impl.CastVote, right, v, n))
		}
		wrong := withNode(right, 1, impl.Node{Known: n, Safe: n})
		calls = append(calls, call1("ClusterFault "+what, impl.ClusterFault, wrong), call1("CandidateOf "+what, impl.CandidateOf, wrong), call1("OpenNext "+what, impl.OpenNext, wrong), call2("SameClusters "+what, impl.SameClusters, right, wrong))
	}
	checkCalls(t, calls)
}

// clusterCalls are all that change a cluster, each with an answer at memoryCluster that is no code.
func clusterCalls() map[string]func(c impl.Cluster, txn impl.Txn) impl.ClusterResult {
	calls := map[string]func(c impl.Cluster, txn impl.Txn) impl.ClusterResult{
		"Submit":     func(c impl.Cluster, txn impl.Txn) impl.ClusterResult { return impl.Submit(c, 1, txn) },
		"OfferBatch": func(c impl.Cluster, _ impl.Txn) impl.ClusterResult { return impl.OfferBatch(c, 2) },
		"a report":   func(c impl.Cluster, _ impl.Txn) impl.ClusterResult { return impl.CastVote(c, report(0, 2, 0), 0) },
		"a proposal": func(c impl.Cluster, _ impl.Txn) impl.ClusterResult { return impl.CastVote(c, proposal(1, 1, 0), 3) },
		"an end": func(c impl.Cluster, _ impl.Txn) impl.ClusterResult {
			return impl.CastVote(impl.CastVote(c, proposal(1, 1, 0), 3).Cluster, ending(0, 0), 3)
		},
		"OpenNext":    func(c impl.Cluster, _ impl.Txn) impl.ClusterResult { return impl.OpenNext(c) },
		"AtNode of 1": func(c impl.Cluster, _ impl.Txn) impl.ClusterResult { return impl.AtNode(c, 0, 1) },
	}
	for ask := int64(2); ask <= 4; ask++ {
		calls[fmt.Sprint("AtNode of ", ask)] = func(c impl.Cluster, _ impl.Txn) impl.ClusterResult { return impl.AtNode(c, 2, ask) }
	}
	return calls
}

// memoryCluster has no batch on its last board, which is decided; the candidate is node 2.
func memoryCluster() impl.Cluster {
	order := append(fullOrder()[:2:2], boardBy(nil, "0..", "00. 00.", "00. 0.."))
	return clusterOf(order, nodeBy(order, 1, 0, ownTxns(5, 1)[0], own(70, put(5, 5), add(1, 1))), nodeBy(order, 3, 2), nodeBy(order, 2, 1, own(71, remove(19)), own(72, put(2, 2)), own(73, put(3, 3))))
}

// memoryAnswers is what each of clusterCalls has to answer at memoryCluster.
func memoryAnswers(heard impl.Txn) map[string]impl.ClusterResult {
	c := memoryCluster()
	order, n := c.Order, c.Nodes
	board := func(batch []impl.Txn, decided string, rounds ...string) impl.Cluster {
		return withLast(c, boardBy(batch, decided, rounds...))
	}
	return map[string]impl.ClusterResult{
		"Submit":      {Cluster: withNode(c, 1, nodeBy(order, 3, 2, heard))},
		"OfferBatch":  {Answer: 2, Cluster: board(n[2].Replica.Tent[:2], "0..", "00. 00.", "00. 0..")},
		"a report":    {Cluster: board(nil, "0..", "000 00.", "00. 0..")},
		"a proposal":  {Cluster: board(nil, "0..", "00. 00.", "00. 00.")},
		"an end":      {Cluster: board(nil, "0..", "00. 00.", "00. 00.", "0.. ...")},
		"OpenNext":    {Cluster: clusterOf(append(slices.Clone(order), newBoard()), n...)},
		"AtNode of 1": {Answer: 1, Cluster: withNode(c, 0, nodeBy(order, 2, 0, n[0].Replica.Tent[1]))},
		"AtNode of 2": {Cluster: withNode(c, 2, nodeBy(order, 2, 2, n[2].Replica.Tent...))},
		"AtNode of 3": {Cluster: withNode(c, 2, nodeBy(order, 1, 1))},
		"AtNode of 4": {Answer: 1, Cluster: withNode(c, 2, nodeBy(order, 3, 1, n[2].Replica.Tent...))},
	}
}

// What is answered is the caller's own: what is written to it, or later to the arguments, shows nowhere else.
func TestClustersAreNewMemory(t *testing.T) {
	heard := own(90, put(1, 1), add(3, 3))
	want := memoryAnswers(heard)
	for what, f := range clusterCalls() {
		c, txn := memoryCluster(), copied(heard).(impl.Txn)
		first, second := f(c, txn), f(c, txn)
		checkNewMemory(t, what, first, []any{c, txn})
		overwrite(first)
		wantSameClusters(t, what+": the cluster behind it", c, memoryCluster(), true)
		wantSame(t, what+": the transaction behind it", []impl.Txn{txn}, []impl.Txn{heard}, true)
		wantSaid(t, what+": the next answer", f(c, txn), want[what])
		overwrite(c)
		overwrite(txn)
		wantSaid(t, what+": the other answer", second, want[what])
	}
	first := impl.NewCluster()
	overwrite(first)
	wantCluster(t, "a new one behind it", impl.NewCluster(), 0, newNodes([]impl.Instance{newBoard()}))
}

// Where nothing is turned the lists are as they were: they are new memory all the same.
func TestClustersThatNothingTurnsAreNewMemory(t *testing.T) {
	overClusters(func(what string, c impl.Cluster) {
		for at := range int64(3) {
			for _, ask := range []int64{2, 3, 4} {
				checkNewMemory(t, fmt.Sprint(what, ", what ", ask, " at ", at), impl.AtNode(c, at, ask), []any{c})
			}
		}
	})
	c := newNodes([]impl.Instance{boardBy(ownTxns(31, 1), "1..", "010 222", "010 222", "010 222", "110 112")})
	again := impl.CastVote(c, ending(0, 0), 3)
	wantCluster(t, "an end that was there", again, 1, c)
	checkNewMemory(t, "an end that was there", again, []any{c})
}

// Lists that the arguments have twice, or in common, are told apart in the answer.
func TestSharedClustersAreToldApart(t *testing.T) {
	acts := []impl.Act{put(1, 1)}
	shared := func(id int64) impl.Txn { return own(id, acts...) }
	order := append(inBatches([]impl.Txn{shared(1), shared(2)}, []impl.Txn{shared(3)}), boardBy(nil, "0..", "00. 00.", "00. 0.."))
	order[1].Rounds = order[0].Rounds
	order[1].Decided = order[0].Decided
	n := nodeBy(order, 2, 0, shared(70), shared(71))
	n.Replica.Done = slices.Concat(order[0].Batch, order[1].Batch)
	n.Replica.Now = n.Replica.Base
	n.Replica.Tent[0].Acts, n.Replica.Tent[1].Acts = acts, acts
	c := clusterOf(order, n, n, n)
	wantCode(t, "it is right", impl.ClusterFault(c), impl.OK)
	for what, f := range clusterCalls() {
		got := f(c, shared(72))
		checkNewMemory(t, what, got, []any{c, acts})
		wantCode(t, what, got.Code, impl.OK)
		wantCode(t, what+": ClusterFault", impl.ClusterFault(got.Cluster), impl.OK)
	}
	checkNewMemory(t, "NewCluster", impl.NewCluster(), nil)
	if !slices.Equal(acts, []impl.Act{put(1, 1)}) {
		t.Errorf("the acts are %v", acts)
	}
}

// A transaction that is offered is its own behind that: in the batch, in the Tent, and in the argument.
func TestWhatIsOfferedIsACopy(t *testing.T) {
	c := holding([]impl.Instance{newBoard()}, 3, 0, 0)
	got := impl.OfferBatch(c, 3)
	overwrite(lastOf(got.Cluster).Batch)
	wantSame(t, "the Tent of the answer", got.Cluster.Nodes[0].Replica.Tent, ownTxns(40, 3), true)
	wantSame(t, "the Tent of the argument", c.Nodes[0].Replica.Tent, ownTxns(40, 3), true)
	overwrite(got.Cluster.Nodes[0].Replica.Tent)
	wantCluster(t, "offered again", impl.OfferBatch(c, 3), 3, withLast(c, boardBy(ownTxns(40, 3), "...", "... ...")))
}

// What stands behind a length is none of it, and stays.
func TestClustersStopAtTheLength(t *testing.T) {
	whole, four, tent := fullOrder(), make([]impl.Node, 4), ownTxns(70, 8)
	four[3] = impl.Node{Known: -1}
	four[1] = nodeBy(whole[:1], 0, 0, tent[:2]...)
	four[1].Replica.Tent = tent[:2]
	c := clusterOf(whole[:1], four[:3]...)
	wantCode(t, "four nodes", impl.ClusterFault(clusterOf(whole, four...)), impl.ErrMany)
	wantCode(t, "three of four", impl.ClusterFault(c), impl.OK)
	wantCode(t, "two of four", impl.ClusterFault(clusterOf(whole, four[:2]...)), impl.ErrMany)
	opened := impl.OpenNext(c)
	wantCluster(t, "the next one", opened, 0, clusterOf([]impl.Instance{fullOrder()[0], newBoard()}, four[:3]...))
	wantCluster(t, "a Tent that is cut", impl.OfferBatch(opened.Cluster, 4), 2, clusterOf([]impl.Instance{fullOrder()[0], boardBy(ownTxns(70, 2), "...", "... ...")}, four[:3]...))
	wantCluster(t, "one more in it", impl.Submit(c, 1, own(60, put(1, 1))), 0, withNode(c, 1, nodeBy(whole[:1], 0, 0, append(ownTxns(70, 2), own(60, put(1, 1)))...)))
	wantCluster(t, "caught up", impl.AtNode(c, 2, 4), 1, withNode(c, 2, nodeBy(whole[:1], 1, 0)))
	wantSame(t, "all of the Tent then", tent, ownTxns(70, 8), true)
	wantSameOrders(t, "the order then", whole, fullOrder(), true)
	if four[3].Known != -1 {
		t.Errorf("the fourth node is %+v", four[3])
	}
}
