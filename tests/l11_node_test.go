package tests

import (
	"fmt"
	"math"
	"reflect"
	"slices"
	"testing"

	"loop.example/g00631/impl"
)

// Promise 12: a node that learns has a longer beginning of the order, and what it had stays; behind a crash a node has a beginning of what it had, and all that was safe; a node that catches up has the whole order. Here: which nodes are right, and which are the same.

var farNumbers = []int64{math.MinInt64, math.MinInt64 + 1, -1 << 32, -256, -2, 256, 1 << 32, 1<<32 + 1, math.MaxInt64 - 1, math.MaxInt64}

// decidedByHand counts the instances in which a node decided.
func decidedByHand(order []impl.Instance) int64 {
	decided := int64(0)
	for _, x := range order {
		if countIn(x.Decided, open) < 3 {
			decided++
		}
	}
	return decided
}

// nodeBy is right, where tent stands for none of what is known.
func nodeBy(order []impl.Instance, known, safe int64, tent ...impl.Txn) impl.Node {
	return impl.Node{Known: known, Safe: safe, Replica: replicaBy(definiteByPairs(order, known), tent)}
}

func isSameNode(a, b impl.Node) bool {
	return reflect.DeepEqual(emptyAsNil(a), emptyAsNil(b))
}

func wantNode(t *testing.T, what string, got impl.NodeResult, answer int64, want impl.Node) {
	t.Helper()
	if got.Code != impl.OK || got.Answer != answer || !isSameNode(got.Node, want) {
		t.Errorf("%s: got %+v, want answer %d and %+v", what, got, answer, want)
	}
}

func wantNodeCode(t *testing.T, what string, got impl.NodeResult, code int64) {
	t.Helper()
	if got.Code != code || got.Answer != 0 || !isSameNode(got.Node, impl.Node{}) {
		t.Errorf("%s: got %+v, want code %d and nothing else", what, got, code)
	}
}

// variedOrder has instances that bring transactions, that were decided against the batch, and that bring only such as are there already, or some.
func variedOrder() []impl.Instance {
	a, b, c := own(1, put(1, 5), put(2, 6)), own(2, holds(1, 5), add(1, 1)), own(3, put(3, 9))
	d, e := own(4, holds(3, 9)), own(5, remove(2), add(1, 1))
	sameId, sameRequest := txnOf(1, 9, 99, put(9, 9)), txnOf(90, b.Session, b.Seq, put(9, 9))
	return []impl.Instance{takenBoard(a, b), refusedBoard(c), takenBoard(sameId, sameRequest, b), takenBoard(d, sameRequest, e, c)}
}

// fullOrder is of the most instances, and of the most transactions.
func fullOrder() []impl.Instance {
	return inBatches(ownTxns(1, 4), ownTxns(5, 4), ownTxns(9, 4), ownTxns(13, 4))
}

// failingOrder ends with transactions that have a code, or have none behind those ahead of them alone.
func failingOrder() []impl.Instance {
	return inBatches([]impl.Txn{own(1, remove(1)), own(2, put(1, 1))}, []impl.Txn{own(3, remove(1)), own(4, holds(1, 1))}, []impl.Txn{own(5, put(1, 2)), own(6, add(1, -2), holds(1, 0))})
}

// nodeOrders are right: none decided, some, and all.
func nodeOrders() [][]impl.Instance {
	orders := [][]impl.Instance{{newBoard()}, {openBoard(ownTxns(31, 3)...)}, {refusedBoard()}, {takenBoard(ownTxns(1, 1)...)}, variedOrder(), fullOrder(), failingOrder()}
	orders = append(orders, append(variedOrder()[:3], openBoard(variedOrder()[3].Batch...)), append(failingOrder(), newBoard()), append(fullOrder()[:3], openBoard(ownTxns(13, 4)...)))
	return append(orders, decidedOrder(2, 4), decidedOrder(4, 4), append(decidedOrder(5, 2), openBoard(ownTxns(31, 3)...)))
}

// comingBy is what the first known and one more bring beyond the first known.
func comingBy(order []impl.Instance, known int64) []impl.Txn {
	return definiteByPairs(order, known+1)[len(definiteByPairs(order, known)):]
}

// tentsAt are guesses of what may come behind the first known: none, right, wrong, in another order, more and fewer.
func tentsAt(order []impl.Instance, known int64) [][]impl.Txn {
	done, all := definiteByPairs(order, known), definiteByPairs(order, decidedByHand(order))
	rest := all[len(done):]
	rest = rest[:min(len(rest), 6)]
	turned, others := slices.Clone(rest), []impl.Txn{own(70, put(1, 7)), own(71, remove(2))}
	slices.Reverse(turned)
	tents := [][]impl.Txn{nil, others, rest, slices.Concat(rest, others), slices.Concat(others, rest), ownTxns(72, 8)}
	if len(rest) > 0 {
		otherActs, otherId := copied(rest).([]impl.Txn), slices.Clone(rest)
		otherActs[0].Acts = []impl.Act{put(4, 4)}
		otherId[len(rest)-1].Id = 199
		tents = append(tents, rest[:len(rest)-1], rest[1:], rest[:1], turned, otherActs, otherId, slices.Concat(rest[:1], others, rest[1:]))
	}
	return tents
}

// rightNodes are all of order that know and have safe whatever may be, with guesses of all kinds.
func rightNodes(order []impl.Instance) []impl.Node {
	var list []impl.Node
	for known := range decidedByHand(order) + 1 {
		for _, tent := range tentsAt(order, known) {
			for safe := range known + 1 {
				list = append(list, nodeBy(order, known, safe, tent...))
			}
		}
	}
	return list
}

// overNodes tells every right node of every one of nodeOrders.
func overNodes(tell func(what string, order []impl.Instance, n impl.Node)) {
	for i, order := range nodeOrders() {
		for j, n := range rightNodes(order) {
			tell(fmt.Sprint("order ", i, ", node ", j), order, n)
		}
	}
}

type faultyNode struct {
	what  string
	order []impl.Instance
	n     impl.Node
	code  int64
}

func TestNodeFaultOfRightNodes(t *testing.T) {
	count := 0
	overNodes(func(what string, order []impl.Instance, n impl.Node) {
		wantCode(t, what, impl.NodeFault(order, n), impl.OK)
		count++
	})
	if count < 1000 {
		t.Errorf("%d nodes alone", count)
	}
	for i, order := range rightOrders() {
		wantCode(t, fmt.Sprint("a new one at ", i), impl.NodeFault(order, impl.Node{}), impl.OK)
		decided := decidedByHand(order)
		wantCode(t, fmt.Sprint("one that knows all at ", i), impl.NodeFault(order, nodeBy(order, decided, decided)), impl.OK)
	}
}

// nodeOrderCases: the OrderFault is told ahead of a Known that leaves its bounds, a replica with a fault, and a Done that is not what is known.
func nodeOrderCases() []faultyNode {
	nodes := []impl.Node{{}, {Known: 1, Safe: 1}, {Known: -1}, {Known: 9}, {Known: math.MaxInt64, Safe: math.MinInt64}, {Safe: 1},
		{Replica: impl.Replica{Done: make([]impl.Txn, 17)}}, {Replica: impl.Replica{Done: []impl.Txn{{}}}}, {Replica: replicaBy(ownTxns(1, 2), nil)}}
	var cases []faultyNode
	for i, c := range allOrderCases() {
		if c.code != impl.OK {
			cases = append(cases, faultyNode{c.what, c.list, nodes[i%len(nodes)], c.code}, faultyNode{c.what + ", a new one", c.list, impl.Node{}, c.code})
		}
	}
	for _, order := range [][]impl.Instance{nil, {}, {{}}, decidedOrder(0, 5)} {
		for i, n := range nodes {
			cases = append(cases, faultyNode{fmt.Sprint(len(order), " of no order, ", i), order, n, impl.ErrMany})
		}
	}
	vote, state := boardBy(nil, "...", "1.. ..."), append([]impl.Instance{newBoard()}, decidedOrder(0, 1)...)
	for i, n := range nodes {
		cases = append(cases, faultyNode{fmt.Sprint("what may not be said, ", i), []impl.Instance{vote}, n, impl.ErrVote}, faultyNode{fmt.Sprint("an open one ahead, ", i), state, n, impl.ErrState})
	}
	return cases
}

// nodeRangeCases: Known and Safe leave their bounds, beside a replica that is right, that has a fault, or whose Done is not what is known.
func nodeRangeCases() []faultyNode {
	var cases []faultyNode
	lay := func(what string, order []impl.Instance, known, safe int64) {
		for i, r := range []impl.Replica{{}, replicaBy(definiteByPairs(order, decidedByHand(order)), nil), {Done: make([]impl.Txn, 17)}, {Tent: []impl.Txn{own(1)}}, {Base: evenItems(1)}, replicaBy(ownTxns(50, 1), nil)} {
			cases = append(cases, faultyNode{fmt.Sprint(what, ": Known ", known, ", Safe ", safe, ", replica ", i), order, impl.Node{Known: known, Safe: safe, Replica: r}, impl.ErrRange})
		}
	}
	for i, order := range nodeOrders() {
		what, decided := fmt.Sprint("order ", i), decidedByHand(order)
		for _, known := range append([]int64{-1, decided + 1, decided + 2, int64(len(order)) + 1}, farNumbers...) {
			for _, safe := range []int64{0, 1, -1, known, decided} {
				lay(what, order, known, safe)
			}
		}
		for known := range decided + 1 {
			for _, safe := range append([]int64{-1, known + 1, known + 2, decided + 1}, farNumbers...) {
				lay(what, order, known, safe)
			}
		}
	}
	return cases
}

// nodeReplicaCases: the ReplicaFault is told ahead of a Done that is not what is known.
func nodeReplicaCases() []faultyNode {
	var cases []faultyNode
	orders := nodeOrders()
	for i, c := range allReplicaCases() {
		if c.code != impl.OK {
			order := orders[i%len(orders)]
			known := int64(i) % (decidedByHand(order) + 1)
			cases = append(cases, faultyNode{c.what, order, impl.Node{Known: known, Safe: known, Replica: c.replica}, c.code})
		}
	}
	order := fullOrder()
	for at, r := range []impl.Replica{{Done: ownTxns(2, 17)}, {Tent: ownTxns(1, 9)}} {
		cases = append(cases, faultyNode{fmt.Sprint("too many, and not what is known, ", at), order, impl.Node{Known: 1, Replica: r}, impl.ErrMany})
	}
	taken, wrong := nodeBy(order, 2, 1, ownTxns(20, 2)...), nodeBy(order, 2, 1, ownTxns(20, 2)...)
	taken.Replica.Tent = ownTxns(8, 2)
	wrong.Replica.Tent = []impl.Txn{own(20), own(21, put(0, 0))}
	base, now, undos := nodeBy(order, 2, 1), nodeBy(order, 2, 1), nodeBy(order, 2, 1)
	base.Replica.Base, now.Replica.Now, undos.Replica.Undos = nil, nil, [][]impl.Undo{nil}
	return append(cases, faultyNode{"one of Tent is known", order, taken, impl.ErrTaken}, faultyNode{"one of Tent has a fault", order, wrong, impl.ErrMany},
		faultyNode{"no Base", order, base, impl.ErrState}, faultyNode{"no Now", order, now, impl.ErrState}, faultyNode{"undos of nothing", order, undos, impl.ErrState})
}

// nodeStateCases have replicas that are right, but whose Done is not what is known.
func nodeStateCases() []faultyNode {
	var cases []faultyNode
	for i, order := range nodeOrders() {
		all := definiteByPairs(order, decidedByHand(order))
		for known := range decidedByHand(order) + 1 {
			count := len(definiteByPairs(order, known))
			for other := range len(all) + 1 {
				if other != count {
					cases = append(cases, faultyNode{fmt.Sprint("order ", i, ", the first ", known, ", ", other, " Done"), order, impl.Node{Known: known, Replica: replicaBy(all[:other], nil)}, impl.ErrState})
				}
			}
		}
	}
	order := variedOrder()
	a, b := order[0].Batch[0], order[0].Batch[1]
	lay := func(what string, known int64, done, tent []impl.Txn) {
		cases = append(cases, faultyNode{what, order, impl.Node{Known: known, Replica: replicaBy(done, tent)}, impl.ErrState})
	}
	lay("another order", 1, []impl.Txn{b, a}, nil)
	lay("other acts", 1, []impl.Txn{a, own(2, holds(1, 5), add(1, 2))}, nil)
	lay("an act less", 1, []impl.Txn{own(1, put(1, 5)), b}, nil)
	lay("another Session", 1, []impl.Txn{a, txnOf(2, 9, b.Seq, b.Acts...)}, nil)
	lay("another Seq", 1, []impl.Txn{txnOf(1, a.Session, 50, a.Acts...), b}, nil)
	lay("another Id", 1, []impl.Txn{txnOf(50, a.Session, a.Seq, a.Acts...), b}, nil)
	lay("another one in all", 1, []impl.Txn{a, own(50, put(1, 1))}, nil)
	lay("others in all", 1, ownTxns(50, 2), nil)
	lay("the last one in Tent", 1, []impl.Txn{a}, []impl.Txn{b})
	lay("all in Tent", 1, nil, []impl.Txn{a, b})
	lay("what was refused", 2, []impl.Txn{a, b, order[1].Batch[0]}, nil)
	lay("what was refused, alone", 2, order[1].Batch, nil)
	lay("what is known twice over", 3, []impl.Txn{order[2].Batch[0], order[2].Batch[1]}, nil)
	lay("one more, which nobody knows", 0, ownTxns(50, 1), nil)
	lay("the end of it", 1, []impl.Txn{b}, nil)
	return cases
}

func allNodeCases() []faultyNode {
	return slices.Concat(nodeOrderCases(), nodeRangeCases(), nodeReplicaCases(), nodeStateCases())
}

func TestNodeFault(t *testing.T) {
	for _, c := range allNodeCases() {
		wantCode(t, c.what, impl.NodeFault(c.order, c.n), c.code)
	}
}

// Two faults at a time, each one alone told first where its turn comes.
func TestNodeFaultTellsTheFirstOne(t *testing.T) {
	right, wrong := fullOrder(), append(fullOrder()[:3], impl.Instance{})
	sound, faulty, strange := nodeBy(right, 3, 2).Replica, impl.Replica{Done: []impl.Txn{own(1)}}, replicaBy(ownTxns(50, 3), nil)
	if code := impl.OrderFault(wrong); code != impl.ErrMany {
		t.Fatalf("the order has the code %d", code)
	}
	cases := []faultyNode{
		{"nothing", right, impl.Node{Known: 3, Safe: 2, Replica: sound}, impl.OK},
		{"the order alone", wrong, impl.Node{Known: 3, Safe: 2, Replica: sound}, impl.ErrMany},
		{"the order and Known", wrong, impl.Node{Known: 5, Safe: 2, Replica: sound}, impl.ErrMany},
		{"the order and Done", wrong, impl.Node{Known: 3, Safe: 2, Replica: strange}, impl.ErrMany},
		{"Known and the replica", right, impl.Node{Known: 5, Safe: 2, Replica: faulty}, impl.ErrRange},
		{"Safe and the replica", right, impl.Node{Known: 3, Safe: 4, Replica: faulty}, impl.ErrRange},
		{"Safe and Done", right, impl.Node{Known: 3, Safe: 4, Replica: strange}, impl.ErrRange},
		{"the replica and Done", right, impl.Node{Known: 3, Safe: 2, Replica: faulty}, impl.ErrMany},
		{"Done alone", right, impl.Node{Known: 3, Safe: 2, Replica: strange}, impl.ErrState},
		{"Known as another one has it", right, impl.Node{Known: 2, Safe: 2, Replica: sound}, impl.ErrState},
	}
	for _, c := range cases {
		wantCode(t, c.what, impl.NodeFault(c.order, c.n), c.code)
		if c.code != impl.OK {
			wantNodeCodes(t, c, math.MinInt64, impl.Txn{})
		}
	}
}

// wantNodeCodes asks the others, keep and txn beside it being right or not.
func wantNodeCodes(t *testing.T, c faultyNode, keep int64, txn impl.Txn) {
	t.Helper()
	wantNodeCode(t, "Learn: "+c.what, impl.Learn(c.order, c.n), c.code)
	wantNodeCode(t, "Hear: "+c.what, impl.Hear(c.order, c.n, txn), c.code)
	wantNodeCode(t, "SyncNode: "+c.what, impl.SyncNode(c.order, c.n), c.code)
	wantNodeCode(t, "CrashNode: "+c.what, impl.CrashNode(c.order, c.n, keep), c.code)
	wantNodeCode(t, "CatchUp: "+c.what, impl.CatchUp(c.order, c.n), c.code)
}

func TestTheOthersTellTheNodeFaultFirst(t *testing.T) {
	keeps := []int64{0, -1, 1, math.MinInt64, math.MaxInt64}
	heard := []impl.Txn{own(70, put(1, 1)), {}, own(70), own(1, put(1, 1)), own(70, put(0, 0))}
	for i, c := range allNodeCases() {
		wantNodeCodes(t, c, keeps[i%5], heard[i/5%5])
	}
}

func wantSameNodes(t *testing.T, what string, a, b impl.Node, want bool) {
	t.Helper()
	if impl.SameNodes(a, b) != want || impl.SameNodes(b, a) != want {
		t.Errorf("%s: SameNodes is not %v", what, want)
	}
}

// Every number and bool of a node, and every list of it and of its lists, makes another node.
func TestSameNodesTellsEveryDifference(t *testing.T) {
	order := variedOrder()
	nodes := []impl.Node{{}, {Known: 1}, {Safe: 1}, {Known: 1, Safe: 1}, {Known: 2, Safe: 1}, {Known: 1, Safe: 2}, {Known: math.MaxInt64, Safe: math.MinInt64}, {Known: math.MinInt64, Safe: math.MaxInt64},
		nodeBy(order, 2, 1, tentsAt(order, 2)[3]...), nodeBy(order, 3, 1, tentsAt(order, 3)[3]...), nodeBy(order, 4, 4), {Known: 1, Safe: 1, Replica: richReplica()}, {Known: 1, Replica: richReplica()}, {Replica: richReplica()}}
	for i, a := range nodes {
		for j, b := range nodes {
			wantSameNodes(t, fmt.Sprint(i, " and ", j), a, copied(b).(impl.Node), i == j)
		}
		for j, turned := range turnsOf(a) {
			wantSameNodes(t, fmt.Sprint(i, ", turn ", j), a, turned, false)
			wantSameNodes(t, fmt.Sprint(i, ", turn ", j, " and itself"), turned, copied(turned).(impl.Node), true)
		}
	}
}

// SameNodes has no code: what has a fault is the same or not as well, and nil is empty wherever it stands.
func TestSameNodesOfFaultyAndEmptyOnes(t *testing.T) {
	for i, c := range allNodeCases() {
		if i%11 == 0 {
			wantSameNodes(t, c.what, c.n, copied(c.n).(impl.Node), true)
			wantSameNodes(t, c.what+", nil for empty", c.n, swapEmpty(c.n), true)
		}
	}
	empty := impl.Replica{Done: []impl.Txn{}, Base: []impl.Item{}, Tent: []impl.Txn{}, Undos: [][]impl.Undo{}, Now: []impl.Item{}}
	wantSameNodes(t, "nothing and empty lists", impl.Node{}, impl.Node{Replica: empty}, true)
	wantSameNodes(t, "a list of nothing, and no list", impl.Node{Replica: impl.Replica{Undos: [][]impl.Undo{nil}}}, impl.Node{}, false)
	far := []int64{0, 1, -1, 256, 1 << 32, math.MinInt64, math.MaxInt64}
	for i, known := range far {
		for j, safe := range far {
			wantSameNodes(t, fmt.Sprint(known, " and ", safe), impl.Node{Known: known, Safe: safe}, impl.Node{Known: safe, Safe: known}, i == j)
		}
	}
}
