package tests

import (
	"fmt"
	"slices"
	"testing"

	"loop.example/g00631/impl"
)

// Promise 1, of chapter 14.

func callsOfAudit(what string, c impl.Cluster) []call {
	calls := []call{call1("AuditCluster "+what, impl.AuditCluster, c), call1("OneOrder "+what, impl.OneOrder, c), call2("IsLater, itself "+what, impl.IsLater, c, c)}
	for _, node := range []int64{-1, 0, 1, 2, 3} {
		calls = append(calls, call2(fmt.Sprint("DoneAt ", what, ", ", node), impl.DoneAt, c, node), call2(fmt.Sprint("ItemsAt ", what, ", ", node), impl.ItemsAt, c, node))
	}
	return calls
}

func TestAuditsLeaveAllElseAlone(t *testing.T) {
	list := manyClusters()
	for i, c := range list {
		calls := callsOfAudit(fmt.Sprint(i), c)
		for _, j := range []int{1, 2, 7} {
			other := list[(i+j)%len(list)]
			calls = append(calls, call2(fmt.Sprint("IsLater ", i, " and ", j, " on"), impl.IsLater, c, other))
		}
		if len(c.Order) > 0 {
			calls = append(calls, call2(fmt.Sprint("IsLater ", i, ", new nodes"), impl.IsLater, c, newNodes(c.Order)))
		}
		checkCalls(t, calls)
	}
	var calls []call
	for i, x := range manyInstances() {
		calls = append(calls, call1(fmt.Sprint("SafeOf ", i), impl.SafeOf, x))
	}
	checkCalls(t, calls)
}

// Every number as a node, and as what a node knows, what a board has, and what a transaction is.
func TestAuditsAnswerAtEveryNumber(t *testing.T) {
	var calls []call
	right := holding([]impl.Instance{refusedBoard(), boardBy(nil, "...", "00. 0..")}, 2, 3, 1)
	for _, n := range slices.Concat(manyInts, farNumbers) {
		what := fmt.Sprint(n)
		calls = append(calls, call2("DoneAt "+what, impl.DoneAt, right, n), call2("ItemsAt "+what, impl.ItemsAt, right, n))
		board := boardBy(ownTxns(1, 1), "...", "11. 11.", "1.. ...")
		board.Rounds[0].Props[1], board.Decided[0] = n, n
		txn := impl.Node{Replica: impl.Replica{Done: []impl.Txn{named(n, n, n, n)}, Tent: []impl.Txn{named(1, 1, 1, n)}, Base: []impl.Item{item(n, n)}, Now: []impl.Item{item(n, n)}}}
		for i, wrong := range []impl.Cluster{withNode(right, 1, impl.Node{Known: n, Safe: n}), withNode(right, 2, impl.Node{Known: 1, Safe: n}), withNode(right, 0, txn), withLast(right, board)} {
			calls = append(calls, callsOfAudit(fmt.Sprint(what, " as ", i), wrong)...)
			calls = append(calls, call2(fmt.Sprint("IsLater ", what, " as ", i), impl.IsLater, right, wrong), call2(fmt.Sprint("IsLater, turned, ", what, " as ", i), impl.IsLater, wrong, right))
		}
		calls = append(calls, call1("SafeOf "+what, impl.SafeOf, board))
	}
	checkCalls(t, calls)
}

// hadCluster has transactions and items at each node, and no two nodes have the same.
func hadCluster() impl.Cluster {
	order := inBatches([]impl.Txn{own(1, put(1, 5), put(2, 6)), own(2, add(1, 1))}, []impl.Txn{own(3, put(3, 9), remove(2))}, []impl.Txn{own(4, add(3, 1), put(5, 5))})
	return clusterOf(order, nodeBy(order, 2, 1, own(70, put(1, 7))), nodeBy(order, 1, 1, own(71, remove(2)), own(72, remove(9))), nodeBy(order, 3, 0, own(73, put(7, 7))))
}

// What is answered is the caller's own: what is written to it, or later to the argument, shows nowhere else.
func TestWhatIsHadIsNewMemory(t *testing.T) {
	for node := range int64(3) {
		c, want := hadCluster(), replicaBy(definiteByPairs(hadCluster().Order, hadCluster().Nodes[node].Known), nil)
		first, second := impl.DoneAt(c, node), impl.DoneAt(c, node)
		items, others := impl.ItemsAt(c, node), impl.ItemsAt(c, node)
		checkNewMemory(t, fmt.Sprint("DoneAt ", node), first, []any{c, second})
		checkNewMemory(t, fmt.Sprint("ItemsAt ", node), items, []any{c, others})
		overwrite(first)
		overwrite(items)
		wantSameClusters(t, "the cluster behind it", c, hadCluster(), true)
		wantHad(t, "the next answers", c)
		overwrite(c)
		wantTxns(t, fmt.Sprint("the other answer of ", node), second, want.Done...)
		wantItems(t, fmt.Sprint("the other items of ", node), others, int64(len(want.Base)), want.Base)
	}
}

func TestWhatIsHadByEveryNodeIsNewMemory(t *testing.T) {
	overClusters(func(what string, c impl.Cluster) {
		for node := range int64(3) {
			checkNewMemory(t, fmt.Sprint(what, ", DoneAt ", node), impl.DoneAt(c, node), []any{c})
			checkNewMemory(t, fmt.Sprint(what, ", ItemsAt ", node), impl.ItemsAt(c, node), []any{c})
		}
	})
}

// Lists that an argument has twice are told apart in the answer.
func TestSharedActsAreToldApart(t *testing.T) {
	acts := []impl.Act{put(1, 1)}
	order := inBatches([]impl.Txn{own(1, acts...), own(2, acts...)})
	for at := range order[0].Batch {
		order[0].Batch[at].Acts = acts
	}
	n := nodeBy(order, 1, 1)
	n.Replica.Done, n.Replica.Now = order[0].Batch, n.Replica.Base
	c := clusterOf(order, n, n, n)
	wantInLine(t, "shared", c)
	for node := range int64(3) {
		done, items := impl.DoneAt(c, node), impl.ItemsAt(c, node)
		checkNewMemory(t, "DoneAt", done, []any{c, acts, items})
		checkNewMemory(t, "ItemsAt", items, []any{c, acts})
		overwrite(done)
		overwrite(items)
		wantTxns(t, "the next answer", impl.DoneAt(c, node), own(1, put(1, 1)), own(2, put(1, 1)))
		wantItems(t, "the next items", impl.ItemsAt(c, node), 1, []impl.Item{item(1, 1)})
	}
	wantLater(t, "shared, and itself", c, c, true, true)
	if !slices.Equal(acts, []impl.Act{put(1, 1)}) {
		t.Errorf("the acts are %v", acts)
	}
}

// What stands behind a length is none of it, and stays.
func TestAuditsStopAtTheLength(t *testing.T) {
	whole, four := fullOrder(), make([]impl.Node, 4)
	four[1], four[3] = nodeBy(whole[:2], 1, 0, ownTxns(70, 2)...), impl.Node{Known: -1}
	done := ownTxns(1, 8)
	four[1].Replica.Done = done[:4]
	tent := ownTxns(70, 8)
	four[1].Replica.Tent = tent[:2]
	c := clusterOf(whole[:2], four[:3]...)
	wantAudit(t, "a part of it", c, 2, 8, 0, 2)
	wantAuditCode(t, "four nodes", clusterOf(whole[:2], four...), impl.ErrMany)
	wantTxns(t, "Done of a part", impl.DoneAt(c, 1), ownTxns(1, 4)...)
	wantBool(t, "one order", impl.OneOrder(c), true)
	wantBool(t, "one order of four nodes", impl.OneOrder(clusterOf(whole[:2], four...)), false)
	wantLater(t, "a part of the order, and more of it", c, newNodes(whole[:3]), true, false)
	x := fullBoard()
	x.Rounds[1].Props, x.Decided = rowBy("122010")[:3], rowBy("11.0")[:3]
	wantBool(t, "a part of what was said", impl.SafeOf(x), true)
	wantSame(t, "all that was Done", done, ownTxns(1, 8), true)
	wantSameOrders(t, "the order then", whole, fullOrder(), true)
	if four[3].Known != -1 {
		t.Errorf("the fourth node is %+v", four[3])
	}
}

// An empty list is nil, wherever it stands.
func TestEmptyAuditsAreNil(t *testing.T) {
	for i, c := range []impl.Cluster{impl.NewCluster().Cluster, newNodes(fullOrder()), variedCluster(), clusterOf([]impl.Instance{}, []impl.Node{}...), {}} {
		other := swapEmpty(c)
		if got, want := impl.AuditCluster(other), impl.AuditCluster(c); got != want {
			t.Errorf("cluster %d: got %+v, want %+v", i, got, want)
		}
		wantBool(t, fmt.Sprint("OneOrder ", i), impl.OneOrder(other), i < 3)
		wantLater(t, fmt.Sprint("IsLater ", i), c, other, i < 3, i < 3)
		for node := range int64(3) {
			wantCode(t, fmt.Sprint("DoneAt ", i), impl.DoneAt(other, node).Code, impl.DoneAt(c, node).Code)
			wantCode(t, fmt.Sprint("ItemsAt ", i), impl.ItemsAt(other, node).Code, impl.ItemsAt(c, node).Code)
		}
	}
	for i, x := range rightBoards() {
		wantBool(t, fmt.Sprint("SafeOf ", i), impl.SafeOf(swapEmpty(x)), true)
	}
	wantBool(t, "SafeOf empty lists", impl.SafeOf(impl.Instance{Batch: []impl.Txn{}, Rounds: []impl.Round{}, Decided: []int64{}}), false)
}
