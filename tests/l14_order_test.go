package tests

import (
	"fmt"
	"slices"
	"testing"

	"loop.example/g00631/impl"
)

// Promise 15: of any two nodes what the one has done is a beginning of what the other one has. Here: what OneOrder and SafeOf say.

// isBeginningByHand holds a against the first ones of b one by one.
func isBeginningByHand(a, b []impl.Txn) bool {
	for at, txn := range a {
		if at >= len(b) || !hasWhole(b[at:at+1], txn) {
			return false
		}
	}
	return true
}

// wantInLine: c is right, and so has one order, which its nodes show by what DoneAt tells of them.
func wantInLine(t *testing.T, what string, c impl.Cluster) {
	t.Helper()
	wantBool(t, what+": one order", impl.OneOrder(c), true)
	for a := range int64(3) {
		for b := range a {
			one, other := impl.DoneAt(c, a), impl.DoneAt(c, b)
			if one.Code != impl.OK || other.Code != impl.OK || !isBeginningByHand(one.Txns, other.Txns) && !isBeginningByHand(other.Txns, one.Txns) {
				t.Errorf("%s: %+v at %d, %+v at %d", what, one, a, other, b)
			}
		}
	}
}

func TestOneOrderOfEveryCluster(t *testing.T) {
	overClusters(func(what string, c impl.Cluster) { wantInLine(t, what, c) })
	for i, c := range votedClusters() {
		wantInLine(t, fmt.Sprint("voted ", i), c)
	}
	for i, order := range rightOrders() {
		decided := decidedByHand(order)
		wantInLine(t, fmt.Sprint("new nodes at ", i), newNodes(order))
		wantInLine(t, fmt.Sprint("one that knows all at ", i), withNode(newNodes(order), i%3, nodeBy(order, decided, 0)))
	}
}

// Nodes that know nothing, the same, and more or less than another one, either way round.
func TestOneOrderByHand(t *testing.T) {
	wantInLine(t, "a new cluster", impl.NewCluster().Cluster)
	wantInLine(t, "nobody knows", newNodes(fullOrder()))
	wantInLine(t, "other things are ahead of their time", holding([]impl.Instance{newBoard()}, 3, 8, 1))
	for i, order := range [][]impl.Instance{fullOrder(), variedOrder(), failingOrder(), {refusedBoard(), takenBoard(ownTxns(1, 1)...)}, {refusedBoard()}} {
		decided := decidedByHand(order)
		for a := range decided + 1 {
			for b := range decided + 1 {
				for c := range decided + 1 {
					wantInLine(t, fmt.Sprint("order ", i, ": ", a, b, c), clusterOf(order, nodeBy(order, a, 0), nodeBy(order, b, b), nodeBy(order, c, 0, own(99, put(9, 9)))))
				}
			}
		}
	}
}

// parted is a node of as many known ones as order has, with something else Done in one place.
func parted(order []impl.Instance, at int) impl.Node {
	n := nodeBy(order, decidedByHand(order), 0)
	done := slices.Clone(n.Replica.Done)
	done[at] = own(150, put(5, 5))
	n.Replica = replicaBy(done, nil)
	return n
}

// Two nodes that part are no one order, whichever they are, wherever they part, and whatever the third one has.
func TestOneOrderOfNodesThatPart(t *testing.T) {
	order := fullOrder()
	for _, at := range []int{0, 3, 4, 9, 15} {
		for _, third := range []impl.Node{{}, nodeBy(order, 1, 0), nodeBy(order, 4, 4)} {
			for alone := range 3 {
				nodes := slices.Repeat([]impl.Node{nodeBy(order, 4, 0)}, 3)
				nodes[alone] = third
				wantBool(t, fmt.Sprint("as it was, ", alone), impl.OneOrder(clusterOf(order, nodes...)), true)
				for other := range 3 {
					if other != alone {
						c := withNode(clusterOf(order, nodes...), other, parted(order, at))
						wantBool(t, fmt.Sprint("the node ", other, " parts at ", at, ", ", alone, " is another one"), impl.OneOrder(c), false)
					}
				}
			}
		}
		one := parted(order, at)
		wantBool(t, fmt.Sprint("all of them at ", at), impl.OneOrder(clusterOf(order, one, one, one)), false)
		for node := range 3 {
			wantBool(t, fmt.Sprint("from new ones at ", at), impl.OneOrder(withNode(newNodes(order), node, one)), false)
		}
	}
	turned := nodeBy(order, 1, 0)
	turned.Replica = replicaBy([]impl.Txn{own(1, put(1, 1)), order[0].Batch[2], order[0].Batch[1], order[0].Batch[3]}, nil)
	wantBool(t, "the same ones in another order", impl.OneOrder(withNode(newNodes(order), 1, turned)), false)
}

// Where a cluster has a fault it has no one order, also if all that is Done is in line.
func TestOneOrderOfAFault(t *testing.T) {
	for _, c := range allClusterCases() {
		wantBool(t, c.what, impl.OneOrder(c.c), false)
	}
	order := fullOrder()
	more, less, safe := nodeBy(order, 3, 0), nodeBy(order, 3, 0), nodeBy(order, 3, 0)
	more.Known, less.Known, safe.Safe = 4, 2, 4
	for what, n := range map[string]impl.Node{"more known than Done": more, "less known than Done": less, "more safe than known": safe, "a Tent that was Done": {Replica: impl.Replica{Tent: ownTxns(1, 1)}}, "items from nowhere": {Replica: impl.Replica{Base: evenItems(1), Now: evenItems(1)}}} {
		for at := range 3 {
			wantBool(t, fmt.Sprint(what, " at ", at), impl.OneOrder(withNode(newNodes(order), at, n)), false)
		}
	}
	for _, count := range []int{0, 1, 2, 4, 300} {
		wantBool(t, fmt.Sprint(count, " nodes"), impl.OneOrder(clusterOf(order, make([]impl.Node, count)...)), false)
	}
	wantBool(t, "nothing", impl.OneOrder(impl.Cluster{}), false)
	wantBool(t, "no order", impl.OneOrder(newNodes(nil)), false)
	wantBool(t, "an open one ahead", impl.OneOrder(newNodes([]impl.Instance{newBoard(), newBoard()})), false)
}

// isSafeByHand counts on an instance without a fault of form: what was said, what was proposed in each round, and what was decided.
func isSafeByHand(x impl.Instance) bool {
	for _, round := range x.Rounds {
		if countIn(round.Props, 0) > 0 && countIn(round.Props, 1) > 0 {
			return false
		}
	}
	return isSaidByRules(x) && (countIn(x.Decided, 0) == 0 || countIn(x.Decided, 1) == 0)
}

func TestSafeOfFaults(t *testing.T) {
	met := map[bool]int{}
	for _, c := range allInstanceCases() {
		wantBool(t, c.what, impl.SafeOf(c.x), c.code == impl.OK)
		met[c.code == impl.OK]++
	}
	if met[true] < 40 || met[false] < 200 {
		t.Errorf("too few of %v", met)
	}
	wantBool(t, "nothing", impl.SafeOf(impl.Instance{}), false)
	for _, order := range rightOrders() {
		for at, x := range order {
			wantBool(t, fmt.Sprint("of an order, at ", at), impl.SafeOf(x), true)
		}
	}
	for i, x := range drawnBoards(60) {
		wantBool(t, fmt.Sprint("drawn board ", i), impl.SafeOf(x), true)
	}
}

// Both 0 and 1 in one round, in two rounds, and decided, beside what is nearly so.
func TestSafeOfByHand(t *testing.T) {
	one := someTxns(1)
	for _, c := range []struct {
		what string
		x    impl.Instance
		want bool
	}{
		{"nothing decided, nothing said", newBoard(), true},
		{"a batch, and nothing said", boardBy(one, "...", "... ..."), true},
		{"nothing decided", boardBy(one, "...", "110 122", "1.. ..."), true},
		{"0 and none proposed", boardBy(one, "...", "010 022"), true},
		{"1 and none proposed", boardBy(one, "...", "011 212"), true},
		{"both proposed in the first round", boardBy(one, "...", "110 1.0"), false},
		{"both proposed in the first round, by all", boardBy(one, "...", "101 101"), false},
		{"both proposed in the second round", boardBy(one, "...", "110 222", "010 01."), false},
		{"both proposed in the last round", boardBy(one, "...", "110 222", "110 222", "110 222", "101 1.0"), false},
		{"both proposed, and one of them decided", boardBy(one, "0..", "110 001"), false},
		{"1 in one round, 0 in the next one", boardBy(one, "...", "110 122", "000 0.."), true},
		{"1 in one round, 0 decided in the next one", boardBy(one, "0.0", "110 122", "000 000"), true},
		{"0 in one round, 1 in the next one", boardBy(one, "...", "100 220", "11. 1.."), true},
		{"0 in one round, 1 decided in the last one", boardBy(one, "111", "100 220", "110 222", "110 222", "011 211"), true},
		{"decided the same in one round", boardBy(one, "11.", "111 111"), true},
		{"decided the same in two rounds", boardBy(one, "111", "111 111", "111 111"), true},
		{"0 decided by all", boardBy(one, "000", "000 000", "000 000"), true},
		{"0 decided by one", boardBy(nil, "..0", "000 000"), true},
		{"both decided by one round", boardBy(one, "01.", "110 110"), false},
		{"both decided by one round that has each one once", boardBy(one, "0.1", "111 011"), false},
		{"both decided by two rounds", boardBy(one, "0.1", "111 11.", "001 00."), false},
		{"both decided by the first and the last round", boardBy(one, "10.", "110 11.", "110 222", "110 222", "000 000"), false},
		{"both decided, and nothing proposed", boardBy(one, "1.0", "111 ..."), false},
		{"decided what was not proposed", boardBy(one, "..1", "111 1.."), false},
	} {
		wantBool(t, c.what, impl.SafeOf(c.x), c.want)
		wantBool(t, c.what+", by hand", isSafeByHand(c.x), c.want)
	}
}

func TestSafeOfEveryFirstRound(t *testing.T) {
	met := map[bool]int{}
	for _, batch := range [][]impl.Txn{nil, someTxns(1)} {
		for _, reports := range reportRows() {
			for _, props := range propRows() {
				for _, decided := range reportRows() {
					x := impl.Instance{Has: batch != nil, Batch: batch, Rounds: []impl.Round{{Reports: reports, Props: props}}, Decided: decided}
					want := isSafeByHand(x)
					if impl.SafeOf(x) != want {
						t.Errorf("%+v: safe is not %v", x, want)
					}
					met[want]++
				}
			}
		}
	}
	if met[true] < 200 || met[false] < 50000 {
		t.Errorf("too few of %v", met)
	}
}

// With any vote turned, in any round, a board is safe or not by the rules.
func TestSafeOfEveryTurnedVote(t *testing.T) {
	met := map[bool]int{}
	for _, x := range append(rightBoards(), drawnBoards(40)...) {
		for i := range votePlaces(&x) {
			for vote := range int64(4) {
				y := copied(x).(impl.Instance)
				place := votePlaces(&y)[i]
				*place.vote = vote
				want := isSafeByHand(y) && (vote != none || place.isProp)
				wantBool(t, fmt.Sprintf("%+v", y), impl.SafeOf(y), want)
				met[want]++
			}
		}
	}
	if met[true] < 200 || met[false] < 200 {
		t.Errorf("too few of %v", met)
	}
}

// SafeOf asks no order: an instance alone is safe, wherever it might stand.
func TestSafeOfAsksTheInstanceAlone(t *testing.T) {
	for i, x := range openBoards() {
		wantBool(t, fmt.Sprint("open ", i), impl.SafeOf(x), true)
		wantBool(t, fmt.Sprint("ahead of another one ", i), impl.OneOrder(newNodes([]impl.Instance{x, newBoard()})), false)
	}
}
