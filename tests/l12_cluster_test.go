package tests

import (
	"fmt"
	"math"
	"reflect"
	"slices"
	"testing"

	"loop.example/g00631/impl"
)

// Promise 13: whatever is done, the cluster is right, and what is offered is what the candidate has; each one is the candidate in its turn. Here: which clusters are right, which are the same, and whose turn it is.

func clusterOf(order []impl.Instance, nodes ...impl.Node) impl.Cluster {
	return impl.Cluster{Order: order, Nodes: nodes}
}

// newNodes has new nodes of order, which anybody may be at any time.
func newNodes(order []impl.Instance) impl.Cluster { return clusterOf(order, make([]impl.Node, 3)...) }

// withNode is c with another node in one place alone.
func withNode(c impl.Cluster, at int, n impl.Node) impl.Cluster {
	c.Nodes = slices.Clone(c.Nodes)
	c.Nodes[at] = n
	return c
}

// withLast is c with another instance in the last place alone.
func withLast(c impl.Cluster, x impl.Instance) impl.Cluster {
	c.Order = withBoard(c.Order, len(c.Order)-1, x)
	return c
}

func lastOf(c impl.Cluster) impl.Instance { return c.Order[len(c.Order)-1] }

func isSameCluster(a, b impl.Cluster) bool {
	return reflect.DeepEqual(emptyAsNil(a), emptyAsNil(b))
}

func wantCluster(t *testing.T, what string, got impl.ClusterResult, answer int64, want impl.Cluster) {
	t.Helper()
	if got.Code != impl.OK || got.Answer != answer || !isSameCluster(got.Cluster, want) {
		t.Errorf("%s: got %+v, want answer %d and %+v", what, got, answer, want)
	}
}

func wantClusterCode(t *testing.T, what string, got impl.ClusterResult, code int64) {
	t.Helper()
	if got.Code != code || got.Answer != 0 || !isSameCluster(got.Cluster, impl.Cluster{}) {
		t.Errorf("%s: got %+v, want code %d and nothing else", what, got, code)
	}
}

// wantSaid holds got against what the chapter's words tell, and asks promise 13 of what comes of it.
func wantSaid(t *testing.T, what string, got, want impl.ClusterResult) impl.ClusterResult {
	t.Helper()
	if want.Code != impl.OK {
		wantClusterCode(t, what, got, want.Code)
		return got
	}
	wantCluster(t, what, got, want.Answer, want.Cluster)
	wantCode(t, what+": the cluster behind it", impl.ClusterFault(got.Cluster), impl.OK)
	return got
}

// rightClusters have nodes of one order that know, have safe and guessed whatever may be, each one otherwise.
func rightClusters() []impl.Cluster {
	var list []impl.Cluster
	for _, order := range nodeOrders() {
		nodes := rightNodes(order)
		for i := range nodes {
			if i%3 == 0 {
				list = append(list, clusterOf(order, nodes[i], nodes[(i*7+5)%len(nodes)], nodes[(i*13+11)%len(nodes)]))
			}
		}
	}
	return list
}

// overClusters tells every one of rightClusters.
func overClusters(tell func(what string, c impl.Cluster)) {
	for i, c := range rightClusters() {
		tell(fmt.Sprint("cluster ", i), c)
	}
}

// variedCluster has nodes that know different beginnings of one order, and that guessed different things.
func variedCluster() impl.Cluster {
	order := variedOrder()
	return clusterOf(order, nodeBy(order, 2, 1, own(70, put(1, 7)), own(71, remove(9))), nodeBy(order, 0, 0, own(72, put(5, 5), add(5, 1))), nodeBy(order, 4, 3))
}

type faultyCluster struct {
	what string
	c    impl.Cluster
	code int64
}

func TestClusterFaultOfRightClusters(t *testing.T) {
	count := 0
	overClusters(func(what string, c impl.Cluster) {
		wantCode(t, what, impl.ClusterFault(c), impl.OK)
		count++
	})
	if count < 300 {
		t.Errorf("%d clusters alone", count)
	}
	for i, order := range rightOrders() {
		wantCode(t, fmt.Sprint("new nodes at ", i), impl.ClusterFault(newNodes(order)), impl.OK)
		decided := decidedByHand(order)
		all := nodeBy(order, decided, decided)
		wantCode(t, fmt.Sprint("one that knows all, at ", i), impl.ClusterFault(withNode(newNodes(order), i%3, all)), impl.OK)
		wantCode(t, fmt.Sprint("all know all, at ", i), impl.ClusterFault(clusterOf(order, all, all, all)), impl.OK)
	}
}

// wrongNodeLists are too few, too many, or have a fault.
func wrongNodeLists() [][]impl.Node {
	faulty := impl.Node{Known: -1}
	return [][]impl.Node{nil, {}, make([]impl.Node, 1), make([]impl.Node, 2), make([]impl.Node, 4), make([]impl.Node, 300), {faulty, faulty}, {faulty, {}, {}}, {{}, {}, faulty}, {faulty, faulty, faulty, faulty}}
}

// clusterOrderCases: the OrderFault is told ahead of too few nodes, of too many, and of nodes with a fault.
func clusterOrderCases() []faultyCluster {
	lists := wrongNodeLists()
	var cases []faultyCluster
	for i, c := range allOrderCases() {
		if c.code != impl.OK {
			cases = append(cases, faultyCluster{c.what + ", new nodes", newNodes(c.list), c.code}, faultyCluster{c.what + ", wrong nodes", clusterOf(c.list, lists[i%len(lists)]...), c.code})
		}
	}
	open, vote := []impl.Instance{newBoard(), newBoard()}, []impl.Instance{boardBy(nil, "...", "1.. ...")}
	for i, nodes := range append(lists, make([]impl.Node, 3)) {
		what := fmt.Sprint(", nodes ", i)
		cases = append(cases, faultyCluster{"no instance" + what, clusterOf(nil, nodes...), impl.ErrMany}, faultyCluster{"five instances" + what, clusterOf(decidedOrder(0, 5), nodes...), impl.ErrMany},
			faultyCluster{"an open one ahead" + what, clusterOf(open, nodes...), impl.ErrState}, faultyCluster{"what may not be said" + what, clusterOf(vote, nodes...), impl.ErrVote})
	}
	return cases
}

// clusterCountCases: too few or too many are told ahead of a node with a fault, wherever it stands.
func clusterCountCases() []faultyCluster {
	var cases []faultyCluster
	for i, order := range nodeOrders() {
		decided := decidedByHand(order)
		all, wrong := nodeBy(order, decided, 0), impl.Node{Known: decided, Replica: replicaBy(ownTxns(150, 1), nil)}
		for _, count := range []int{0, 1, 2, 4, 5, 6, 256 + 3} {
			what := fmt.Sprint(count, " nodes of order ", i)
			cases = append(cases, faultyCluster{what, clusterOf(order, slices.Repeat([]impl.Node{all}, count)...), impl.ErrMany}, faultyCluster{what + ", new ones", clusterOf(order, make([]impl.Node, count)...), impl.ErrMany})
			if count > 0 {
				right := clusterOf(order, slices.Repeat([]impl.Node{all}, count)...)
				cases = append(cases, faultyCluster{what + ", the first one wrong", withNode(right, 0, wrong), impl.ErrMany}, faultyCluster{what + ", the last one wrong", withNode(right, count-1, impl.Node{Known: -1}), impl.ErrMany})
			}
		}
	}
	return cases
}

// clusterNodeCases have one node with a fault, at each place, beside right ones.
func clusterNodeCases() []faultyCluster {
	var cases []faultyCluster
	for i, c := range slices.Concat(nodeRangeCases(), nodeReplicaCases(), nodeStateCases()) {
		if i%17 == 0 && c.code != impl.OK {
			decided := decidedByHand(c.order)
			right := clusterOf(c.order, nodeBy(c.order, decided, decided), nodeBy(c.order, decided/2, 0), impl.Node{})
			cases = append(cases, faultyCluster{fmt.Sprint(c.what, " at ", i%3), withNode(right, i%3, c.n), c.code})
		}
	}
	return cases
}

// clusterSeveralCases have two or three nodes with faults; that of the one ahead is told, whatever it is.
func clusterSeveralCases() []faultyCluster {
	order := fullOrder()
	full := nodeBy(order, 2, 1, ownTxns(70, 2)...)
	many, state, taken, form := full, full, full, full
	many.Replica = impl.Replica{Done: ownTxns(1, 17)}
	state.Known = 3
	taken.Replica.Tent = ownTxns(8, 2)
	form.Replica.Tent = []impl.Txn{own(70, impl.Act{Kind: 5, Key: 1})}
	wrong := []faultyNode{{"range", order, impl.Node{Known: 5}, impl.ErrRange}, {"many", order, many, impl.ErrMany}, {"state", order, state, impl.ErrState}, {"taken", order, taken, impl.ErrTaken}, {"form", order, form, impl.ErrForm}}
	var cases []faultyCluster
	for _, a := range wrong {
		for at := range 3 {
			cases = append(cases, faultyCluster{fmt.Sprint(a.what, " alone at ", at), withNode(clusterOf(order, full, full, full), at, a.n), a.code})
		}
		for _, b := range wrong {
			for at, c := range []impl.Cluster{clusterOf(order, a.n, b.n, full), clusterOf(order, a.n, full, b.n), clusterOf(order, full, a.n, b.n), clusterOf(order, a.n, b.n, b.n), clusterOf(order, a.n, a.n, b.n)} {
				cases = append(cases, faultyCluster{fmt.Sprint(a.what, " ahead of ", b.what, ", ", at), c, a.code})
			}
		}
	}
	return cases
}

func allClusterCases() []faultyCluster {
	return slices.Concat(clusterOrderCases(), clusterCountCases(), clusterNodeCases(), clusterSeveralCases())
}

func TestClusterFault(t *testing.T) {
	codes := map[int64]int{}
	for _, c := range allClusterCases() {
		wantCode(t, c.what, impl.ClusterFault(c.c), c.code)
		codes[c.code]++
	}
	for _, code := range []int64{impl.ErrForm, impl.ErrMany, impl.ErrRange, impl.ErrTaken, impl.ErrState, impl.ErrVote} {
		if codes[code] < 10 {
			t.Errorf("code %d: too few of %v", code, codes)
		}
	}
}

// A node is right by the order of its own cluster: what is right at one is not at another.
func TestClusterFaultAsksByTheOrder(t *testing.T) {
	order, other := fullOrder(), variedOrder()
	wantCode(t, "of another order", impl.ClusterFault(withNode(newNodes(order), 1, nodeBy(other, 1, 1))), impl.ErrState)
	wantCode(t, "of its own", impl.ClusterFault(withNode(newNodes(other), 1, nodeBy(other, 1, 1))), impl.OK)
	wantCode(t, "of a longer one", impl.ClusterFault(withNode(newNodes(order[:2]), 2, nodeBy(order, 3, 0))), impl.ErrRange)
	wantCode(t, "the last one is open", impl.ClusterFault(withNode(newNodes(append(fullOrder()[:2], openBoard(ownTxns(9, 4)...))), 0, nodeBy(order, 3, 0))), impl.ErrRange)
	wantCode(t, "of the beginning of it", impl.ClusterFault(withNode(newNodes(order), 2, nodeBy(order[:2], 2, 2))), impl.OK)
}

// clusterExtras are what the others are told beside the cluster, right and wrong.
type clusterExtras struct {
	node, most, what, mask int64
	txn                    impl.Txn
	vote                   impl.Vote
}

func manyExtras() []clusterExtras {
	right := clusterExtras{node: 0, most: 1, what: 2, mask: 3, txn: own(90, put(1, 1)), vote: report(0, 0, 0)}
	wrong := clusterExtras{node: 3, most: 0, what: 0, mask: -1}
	far := clusterExtras{node: math.MinInt64, most: math.MaxInt64, what: math.MinInt64, mask: math.MaxInt64, txn: own(math.MaxInt64), vote: report(math.MaxInt64, -1, 9)}
	mixed := clusterExtras{node: 2, most: 5, what: 1, mask: 7, txn: own(90), vote: report(1, 0, 0)}
	return []clusterExtras{right, wrong, far, mixed, {node: -1, most: 4, what: 5, mask: 0, txn: own(90, put(1, 1)), vote: ending(2, 1)}}
}

// wantClusterCodes asks all that ask the ClusterFault first.
func wantClusterCodes(t *testing.T, what string, c impl.Cluster, e clusterExtras, code int64) {
	t.Helper()
	wantClusterCode(t, "Submit: "+what, impl.Submit(c, e.node, e.txn), code)
	wantClusterCode(t, "OfferBatch: "+what, impl.OfferBatch(c, e.most), code)
	wantClusterCode(t, "CastVote: "+what, impl.CastVote(c, e.vote, e.mask), code)
	wantClusterCode(t, "OpenNext: "+what, impl.OpenNext(c), code)
	wantClusterCode(t, "AtNode: "+what, impl.AtNode(c, e.node, e.what), code)
	wantIntCode(t, "CandidateOf: "+what, impl.CandidateOf(c), code)
}

func TestTheOthersTellTheClusterFaultFirst(t *testing.T) {
	extras := manyExtras()
	for i, c := range allClusterCases() {
		wantClusterCodes(t, c.what, c.c, extras[i%len(extras)], c.code)
	}
	for _, e := range extras {
		wantClusterCodes(t, "nothing at all", impl.Cluster{}, e, impl.ErrMany)
		wantClusterCodes(t, "no nodes", clusterOf(fullOrder()), e, impl.ErrMany)
		wantClusterCodes(t, "no order", newNodes(nil), e, impl.ErrMany)
	}
}

func TestNewCluster(t *testing.T) {
	got := impl.NewCluster()
	wantCluster(t, "a new one", got, 0, newNodes([]impl.Instance{newBoard()}))
	wantCode(t, "ClusterFault", impl.ClusterFault(got.Cluster), impl.OK)
	if len(got.Cluster.Nodes) != impl.MaxNodes || len(got.Cluster.Order) != 1 {
		t.Errorf("%d nodes, %d instances", len(got.Cluster.Nodes), len(got.Cluster.Order))
	}
	wantSameOrders(t, "its order", got.Cluster.Order, []impl.Instance{impl.NewInstance().Instance}, true)
	wantInt(t, "its candidate", impl.CandidateOf(got.Cluster), 0)
	wantInt(t, "what is decided in it", impl.DecidedIn(got.Cluster.Order), 0)
	wantClusterCode(t, "nothing to offer", impl.OfferBatch(got.Cluster, 1), impl.ErrNone)
	wantClusterCode(t, "nothing to open", impl.OpenNext(got.Cluster), impl.ErrState)
}

// turnOf is whose turn it is with so many instances.
var turnOf = map[int]int{1: 0, 2: 1, 3: 2, 4: 0}

func candidateByHand(c impl.Cluster) int { return turnOf[len(c.Order)] }

// Each one is the candidate in its turn, whatever stands on the boards, and whoever knows and guessed what.
func TestCandidateOf(t *testing.T) {
	for count, node := range turnOf {
		for at := range decidedBoards() {
			wantInt(t, fmt.Sprint(count, " decided from ", at), impl.CandidateOf(newNodes(decidedOrder(at, count))), int64(node))
		}
		for i, last := range openBoards() {
			wantInt(t, fmt.Sprint(count, ", the last one open: ", i), impl.CandidateOf(newNodes(append(decidedOrder(i, count-1), last))), int64(node))
		}
	}
	met := map[int64]int{}
	overClusters(func(what string, c impl.Cluster) {
		wantInt(t, what, impl.CandidateOf(c), int64(candidateByHand(c)))
		met[impl.CandidateOf(c).Value]++
	})
	if met[0] < 20 || met[2] < 20 {
		t.Errorf("too few of %v", met)
	}
	wantIntCode(t, "no instances", impl.CandidateOf(newNodes(nil)), impl.ErrMany)
	wantIntCode(t, "five instances", impl.CandidateOf(newNodes(decidedOrder(0, 5))), impl.ErrMany)
	wantIntCode(t, "two nodes", impl.CandidateOf(clusterOf(decidedOrder(0, 2), impl.Node{}, impl.Node{})), impl.ErrMany)
}

func wantSameClusters(t *testing.T, what string, a, b impl.Cluster, want bool) {
	t.Helper()
	if impl.SameClusters(a, b) != want || impl.SameClusters(b, a) != want {
		t.Errorf("%s: SameClusters is not %v", what, want)
	}
}

// sameKinds are clusters of all kinds, no two of them the same.
func sameKinds() []impl.Cluster {
	order := variedOrder()
	list := []impl.Cluster{{}, impl.NewCluster().Cluster, clusterOf(nil, impl.Node{}), clusterOf(nil, make([]impl.Node, 2)...), clusterOf([]impl.Instance{{}}), clusterOf(make([]impl.Instance, 2)),
		variedCluster(), newNodes(order), withNode(newNodes(order), 0, nodeBy(order, 1, 1)), withNode(newNodes(order), 1, nodeBy(order, 1, 1)), withNode(newNodes(order), 2, nodeBy(order, 1, 1)), withNode(newNodes(order), 2, nodeBy(order, 1, 0)),
		newNodes(order[:3]), clusterOf(order, variedCluster().Nodes[1], variedCluster().Nodes[0], variedCluster().Nodes[2]), clusterOf(nil, impl.Node{Known: 1}), clusterOf(nil, impl.Node{Safe: 1}), clusterOf(nil, impl.Node{Replica: richReplica()})}
	return append(list, newNodes([]impl.Instance{order[1], order[0]}), newNodes([]impl.Instance{order[0], order[1]}), newNodes(order[:1]))
}

// Every number and bool of a cluster, and every list of it and of its lists, makes another cluster.
func TestSameClustersTellsEveryDifference(t *testing.T) {
	turned := 0
	for i, a := range sameKinds() {
		for j, b := range sameKinds() {
			wantSameClusters(t, fmt.Sprint(i, " and ", j), a, copied(b).(impl.Cluster), i == j)
		}
		for j, b := range turnsOf(a) {
			wantSameClusters(t, fmt.Sprint(i, ", turn ", j), a, b, false)
			wantSameClusters(t, fmt.Sprint(i, ", turn ", j, " and itself"), b, copied(b).(impl.Cluster), true)
			turned++
		}
	}
	if turned < 1000 {
		t.Errorf("%d turns alone", turned)
	}
}

// SameClusters has no code: what has a fault is the same or not as well, and nil is empty wherever it stands.
func TestSameClustersOfFaultyAndEmptyOnes(t *testing.T) {
	for i, c := range allClusterCases() {
		if i%5 == 0 {
			wantSameClusters(t, c.what, c.c, copied(c.c).(impl.Cluster), true)
			wantSameClusters(t, c.what+", nil for empty", c.c, swapEmpty(c.c), true)
		}
	}
	wantSameClusters(t, "nothing and empty lists", impl.Cluster{}, impl.Cluster{Order: []impl.Instance{}, Nodes: []impl.Node{}}, true)
	wantSameClusters(t, "a new node, and one of empty lists", clusterOf(nil, impl.Node{}), clusterOf(nil, impl.Node{Replica: impl.Replica{Tent: []impl.Txn{}, Undos: [][]impl.Undo{}}}), true)
	wantSameClusters(t, "no node, and a new one", impl.Cluster{}, clusterOf(nil, impl.Node{}), false)
	far := []int64{0, 1, -1, 256, 1 << 32, math.MinInt64, math.MaxInt64}
	for i, known := range far {
		for j, safe := range far {
			a, b := clusterOf(nil, impl.Node{Known: known, Safe: safe}), clusterOf(nil, impl.Node{Known: safe, Safe: known})
			wantSameClusters(t, fmt.Sprint(known, " and ", safe), a, b, i == j)
		}
	}
}
