package tests

import (
	"fmt"
	"slices"
	"testing"

	"loop.example/g00631/impl"
)

// Promise 1, of chapter 11.

// manyNodes are right and wrong at order, with lists that are nil, empty and too long.
func manyNodes(order []impl.Instance) []impl.Node {
	list := []impl.Node{{}, {Known: -1}, {Known: 1}, {Known: 1, Safe: 1}, {Safe: 5}, {Known: 5, Safe: 5}}
	for i, r := range manyReplicas() {
		if i%3 == 0 {
			list = append(list, impl.Node{Known: int64(i % 2), Replica: r})
		}
	}
	if impl.OrderFault(order) != impl.OK {
		return list
	}
	for i, n := range rightNodes(order) {
		if i%9 == 0 {
			list = append(list, n)
		}
	}
	return list
}

// manyNodeOrders are right, and a few wrong.
func manyNodeOrders() [][]impl.Instance {
	orders := append(nodeOrders(), nil, []impl.Instance{}, []impl.Instance{{}}, make([]impl.Instance, 4), make([]impl.Instance, 300), decidedOrder(0, 5))
	for seed := range 2 {
		orders = append(orders, grownOrder(seed, func([]impl.Instance, impl.OrderResult) {}))
	}
	return append(orders, []impl.Instance{newBoard(), newBoard()}, []impl.Instance{{Rounds: []impl.Round{{}}, Batch: []impl.Txn{}}})
}

func callsOfNode(what string, order []impl.Instance, n impl.Node) []call {
	calls := []call{call2("NodeFault "+what, impl.NodeFault, order, n), call2("Learn "+what, impl.Learn, order, n),
		call2("SyncNode "+what, impl.SyncNode, order, n), call2("CatchUp "+what, impl.CatchUp, order, n), call2("SameNodes and itself "+what, impl.SameNodes, n, n)}
	for _, keep := range []int64{-1, 0, 1, 9} {
		calls = append(calls, call3(fmt.Sprint("CrashNode ", what, ", keep ", keep), impl.CrashNode, order, n, keep))
	}
	for i, txn := range []impl.Txn{{}, {Acts: []impl.Act{}}, own(70, put(1, 1)), own(69, put(1, 2), remove(1)), own(68, remove(19)), ownTxns(1, 1)[0]} {
		calls = append(calls, call3(fmt.Sprint("Hear ", what, ", ", i), impl.Hear, order, n, txn))
	}
	return calls
}

func TestNodesLeaveAllElseAlone(t *testing.T) {
	for i, order := range manyNodeOrders() {
		var calls []call
		nodes := manyNodes(order)
		for j, n := range nodes {
			calls = append(calls, callsOfNode(fmt.Sprint(i, " ", j), order, n)...)
			calls = append(calls, call2(fmt.Sprint("SameNodes ", j, " and the next one at ", i), impl.SameNodes, n, nodes[(j+1)%len(nodes)]))
		}
		checkCalls(t, calls)
	}
}

// Every number as Known, as Safe, as keep, and as what a transaction has.
func TestNodesAnswerAtEveryNumber(t *testing.T) {
	var calls []call
	order := variedOrder()
	right := nodeBy(order, 3, 1, own(70, put(1, 1)))
	for _, n := range manyInts {
		for i, wrong := range []impl.Node{{Known: n}, {Safe: n}, {Known: n, Safe: n}, {Known: 3, Safe: n, Replica: right.Replica}, {Known: n, Safe: 1, Replica: right.Replica}} {
			calls = append(calls, callsOfNode(fmt.Sprint(n, " as ", i), order, wrong)...)
			calls = append(calls, call2(fmt.Sprint("SameNodes ", n, " as ", i), impl.SameNodes, right, wrong))
		}
		calls = append(calls, call3(fmt.Sprint("CrashNode, keep ", n), impl.CrashNode, order, right, n), call3(fmt.Sprint("CrashNode of a new one, keep ", n), impl.CrashNode, []impl.Instance{newBoard()}, impl.Node{}, n))
		for i, txn := range []impl.Txn{named(n, 1, 1, 0), named(90, n, 1, 0), named(90, 1, n, 0), named(90, 1, 1, n), own(60, impl.Act{Kind: n, Key: n, Value: n})} {
			calls = append(calls, call3(fmt.Sprint("Hear ", n, " as ", i), impl.Hear, order, right, txn))
		}
	}
	checkCalls(t, calls)
}

// nodeCalls are all that change a node, each with an answer at memoryNode that is no code.
func nodeCalls() map[string]func(order []impl.Instance, n impl.Node, txn impl.Txn) impl.NodeResult {
	return map[string]func(order []impl.Instance, n impl.Node, txn impl.Txn) impl.NodeResult{
		"Learn": func(order []impl.Instance, n impl.Node, _ impl.Txn) impl.NodeResult { return impl.Learn(order, n) },
		"Hear": func(order []impl.Instance, n impl.Node, txn impl.Txn) impl.NodeResult {
			return impl.Hear(order, n, txn)
		},
		"SyncNode": func(order []impl.Instance, n impl.Node, _ impl.Txn) impl.NodeResult { return impl.SyncNode(order, n) },
		"CrashNode": func(order []impl.Instance, n impl.Node, _ impl.Txn) impl.NodeResult {
			return impl.CrashNode(order, n, 0)
		},
		"CrashNode with one": func(order []impl.Instance, n impl.Node, _ impl.Txn) impl.NodeResult {
			return impl.CrashNode(order, n, 1)
		},
		"CatchUp": func(order []impl.Instance, n impl.Node, _ impl.Txn) impl.NodeResult { return impl.CatchUp(order, n) },
	}
}

func memoryNode() impl.Node {
	return nodeBy(fullOrder(), 2, 1, ownTxns(9, 1)[0], own(70, put(5, 5), add(1, 1)), own(71, remove(19)))
}

// What is answered is the caller's own: what is written to it, or later to the arguments, shows nowhere else.
func TestNodesAreNewMemory(t *testing.T) {
	kept, heard := memoryNode().Replica.Tent, own(72, put(1, 1), add(3, 3))
	want := map[string]impl.NodeResult{
		"Learn":              {Answer: 2, Node: nodeBy(fullOrder(), 3, 1, kept[1:]...)},
		"Hear":               {Node: nodeBy(fullOrder(), 2, 1, append(memoryNode().Replica.Tent, heard)...)},
		"SyncNode":           {Node: nodeBy(fullOrder(), 2, 2, kept...)},
		"CrashNode":          {Node: nodeBy(fullOrder(), 1, 1)},
		"CrashNode with one": {Node: nodeBy(fullOrder(), 2, 2)},
		"CatchUp":            {Answer: 2, Node: nodeBy(fullOrder(), 4, 1, kept[1:]...)},
	}
	for what, f := range nodeCalls() {
		order, n, txn := fullOrder(), memoryNode(), copied(heard).(impl.Txn)
		first, second := f(order, n, txn), f(order, n, txn)
		overwrite(first)
		wantSameOrders(t, what+": the order behind it", order, fullOrder(), true)
		wantSameNodes(t, what+": the node behind it", n, memoryNode(), true)
		wantSame(t, what+": the transaction behind it", []impl.Txn{txn}, []impl.Txn{heard}, true)
		wantNode(t, what+": the next answer", f(order, n, txn), want[what].Answer, want[what].Node)
		overwrite(order)
		overwrite(n)
		overwrite(txn)
		wantNode(t, what+": the other answer", second, want[what].Answer, want[what].Node)
	}
}

// Where nothing is turned the lists are as they were: they are new memory all the same.
func TestNodesThatNothingTurnsAreNewMemory(t *testing.T) {
	overNodes(func(what string, order []impl.Instance, n impl.Node) {
		for name, got := range map[string]impl.NodeResult{"Learn": impl.Learn(order, n), "SyncNode": impl.SyncNode(order, n), "CatchUp": impl.CatchUp(order, n), "CrashNode": impl.CrashNode(order, n, 4)} {
			checkNewMemory(t, what+", "+name, got, []any{order, n})
		}
	})
}

// Lists that the arguments have twice, or in common, are told apart in the answer.
func TestSharedNodesAreToldApart(t *testing.T) {
	acts := []impl.Act{holds(1, 1)}
	shared := func(id int64) impl.Txn { return own(id, acts...) }
	order := inBatches([]impl.Txn{own(1, put(1, 1)), shared(2)}, []impl.Txn{shared(3), shared(4)}, []impl.Txn{shared(5)})
	order[1].Decided, order[2].Decided = order[0].Decided, order[0].Decided
	for known := range int64(4) {
		n := nodeBy(order, known, 0, shared(70), shared(71))
		if known > 0 {
			n.Replica.Done = slices.Concat(order[0].Batch, order[1].Batch, order[2].Batch)[:len(n.Replica.Done)]
			n.Replica.Now = n.Replica.Base
		}
		wantCode(t, "it is right", impl.NodeFault(order, n), impl.OK)
		for what, f := range nodeCalls() {
			got := f(order, n, shared(72))
			checkNewMemory(t, fmt.Sprint(what, ", ", known, " known"), got, []any{order, n, acts})
			if known < 3 || what != "Learn" {
				wantCode(t, what, got.Code, impl.OK)
			}
		}
	}
	if !slices.Equal(acts, []impl.Act{holds(1, 1)}) {
		t.Errorf("the acts are %v", acts)
	}
}

// What stands behind a length is none of it, and stays.
func TestNodesStopAtTheLength(t *testing.T) {
	whole, all := fullOrder(), ownTxns(1, 24)
	n := nodeBy(whole, 1, 0)
	n.Replica = replicaBy(all[:4], nil)
	n.Replica.Tent = all[20:20:24]
	wantNodeCode(t, "an order that is cut", impl.Learn(whole[:1], n), impl.ErrNone)
	wantNode(t, "an order that is cut, caught up", impl.CatchUp(whole[:2], n), 1, nodeBy(whole, 2, 0))
	wantNode(t, "a Done that is cut", impl.Learn(whole, n), 0, nodeBy(whole, 2, 0))
	wantNode(t, "a Tent that is cut", impl.Hear(whole, n, all[20]), 0, nodeBy(whole, 1, 0, all[20]))
	wantNode(t, "written down", impl.SyncNode(whole, n), 0, nodeBy(whole, 1, 1))
	wantNode(t, "fallen", impl.CrashNode(whole, n, 0), 0, impl.Node{})
	wantCode(t, "a Known behind the length", impl.NodeFault(whole[:1], nodeBy(whole, 2, 0)), impl.ErrRange)
	wantSame(t, "all of it then", all, ownTxns(1, 24), true)
	wantSameOrders(t, "the order then", whole, fullOrder(), true)
}
