package tests

import (
	"fmt"
	"reflect"
	"slices"
	"testing"

	"loop.example/g00631/impl"
)

// Promise 15: whatever happens, the order that was is a beginning of the order that is. Here: which of two clusters is the later one.

// isLaterByHand is for right clusters.
func isLaterByHand(a, b impl.Cluster) bool {
	if len(b.Order) < len(a.Order) {
		return false
	}
	for at := range len(a.Order) - 1 {
		if !reflect.DeepEqual(emptyAsNil(a.Order[at]), emptyAsNil(b.Order[at])) {
			return false
		}
	}
	return isBeginningByHand(definiteByPairs(a.Order, decidedByHand(a.Order)), definiteByPairs(b.Order, decidedByHand(b.Order)))
}

// wantLater asks both ways round: whether b is later than a, and whether a is later than b.
func wantLater(t *testing.T, what string, a, b impl.Cluster, later, earlier bool) {
	t.Helper()
	wantBool(t, what, impl.IsLater(a, b), later)
	wantBool(t, what+", the other way round", impl.IsLater(b, a), earlier)
}

// wantLaterOrders lays new nodes to both orders.
func wantLaterOrders(t *testing.T, what string, a, b []impl.Instance, later, earlier bool) {
	t.Helper()
	wantLater(t, what, newNodes(a), newNodes(b), later, earlier)
}

// laterOrders are right orders, of which many are alike in some of their instances.
func laterOrders() [][]impl.Instance {
	var orders [][]impl.Instance
	for i, order := range rightOrders() {
		if i%3 == 0 || len(order) < 3 {
			orders = append(orders, order)
		}
	}
	for _, order := range nodeOrders() {
		for count := range len(order) {
			orders = append(orders, order[:count+1], append(slices.Clone(order[:count]), newBoard()))
		}
	}
	return orders
}

// Every two of them, both ways round, and each one with itself.
func TestIsLaterOfEveryTwoOrders(t *testing.T) {
	orders, met := laterOrders(), map[string]int{}
	for i, a := range orders {
		for j, b := range orders {
			one, other := newNodes(a), newNodes(b)
			want := isLaterByHand(one, other)
			if got := impl.IsLater(one, other); got != want {
				t.Errorf("%d and %d: got %v for %+v and %+v", i, j, got, a, b)
			}
			met[fmt.Sprint(want, ", as many ", len(a) == len(b), ", more ", len(b) > len(a))]++
		}
		wantBool(t, fmt.Sprint("itself: ", i), impl.IsLater(newNodes(a), newNodes(a)), true)
	}
	for _, what := range []string{"true, as many true, more false", "true, as many false, more true", "false, as many true, more false", "false, as many false, more true", "false, as many false, more false"} {
		if met[what] < 20 {
			t.Errorf("%s: too few of %v", what, met)
		}
	}
}

// What nodes know, have safe and guessed makes no cluster later, or less so.
func TestIsLaterAsksNoNodes(t *testing.T) {
	clusters := []impl.Cluster{variedCluster(), variedClusterOf(fullOrder()), variedClusterOf(failingOrder()), memoryCluster(), holding([]impl.Instance{newBoard()}, 3, 8, 1)}
	for i, c := range rightClusters() {
		if i%6 == 0 {
			clusters = append(clusters, c)
		}
	}
	for i, a := range clusters {
		wantLater(t, fmt.Sprint(i, " and its order with new nodes"), a, newNodes(a.Order), true, true)
		for j, b := range clusters {
			want := isLaterByHand(a, b)
			wantBool(t, fmt.Sprint(i, " and ", j), impl.IsLater(a, b), want)
			wantBool(t, fmt.Sprint(i, " and ", j, ", new nodes"), impl.IsLater(newNodes(a.Order), newNodes(b.Order)), want)
		}
	}
	order := fullOrder()
	wantLater(t, "one falls", clusterOf(order, nodeBy(order, 4, 2), nodeBy(order, 4, 4), nodeBy(order, 4, 0)), clusterOf(order, nodeBy(order, 2, 2), nodeBy(order, 4, 4), impl.Node{}), true, true)
}

// b has fewer instances than a, as many, and more.
func TestIsLaterByCount(t *testing.T) {
	for at := range decidedBoards() {
		for few := 1; few <= 4; few++ {
			for many := 1; many <= 4; many++ {
				what := fmt.Sprint(few, " and ", many, " from ", at)
				wantLaterOrders(t, what, decidedOrder(at, few), decidedOrder(at, many), few <= many, many <= few)
				a, b := append(decidedOrder(at, few-1), newBoard()), append(decidedOrder(at, many-1), newBoard())
				wantLaterOrders(t, what+", the last ones open", a, b, few <= many, many <= few)
			}
		}
	}
	// All ahead of the last one is there, and nothing more is decided: but it is one less.
	for count := 1; count <= 3; count++ {
		wantLaterOrders(t, fmt.Sprint("a new one behind ", count), fullOrder()[:count], append(fullOrder()[:count:count], newBoard()), true, false)
		wantLaterOrders(t, fmt.Sprint("a refused one behind ", count), fullOrder()[:count], append(fullOrder()[:count:count], refusedBoard()), true, false)
	}
}

// The last instance of a may be another one in b: what came of it alone counts.
func TestIsLaterOfTheLastInstance(t *testing.T) {
	a, b := ownTxns(1, 2), ownTxns(5, 2)
	lasts := []struct {
		what string
		x    impl.Instance
		has  []impl.Txn
	}{
		{"a new one", newBoard(), nil}, {"votes", openBoard(), nil}, {"a batch", boardBy(a, "...", "... ..."), nil}, {"a batch and votes", openBoard(a...), nil}, {"another batch", boardBy(b, "...", "110 1.."), nil},
		{"refused", refusedBoard(a...), nil}, {"refused otherwise", boardBy(a, "000", "000 000"), nil}, {"refused without one", refusedBoard(), nil},
		{"taken", takenBoard(a...), a}, {"taken otherwise", boardBy(a, "1..", "111 111"), a}, {"taken by more", boardBy(a, "111", "110 112", "11. ..."), a},
		{"the first one taken", takenBoard(a[0]), a[:1]}, {"the second one taken", takenBoard(a[1]), a[1:]}, {"both the other way round", takenBoard(a[1], a[0]), []impl.Txn{a[1], a[0]}},
		{"one more taken", takenBoard(append(slices.Clone(a), b[0])...), append(slices.Clone(a), b[0])}, {"others taken", takenBoard(b...), b}, {"others ahead", takenBoard(b[0], a[0], a[1]), append(slices.Clone(b[:1]), a...)},
		{"the same names, another act", takenBoard(txnOf(1, a[0].Session, a[0].Seq, put(2, 2)), a[1]), []impl.Txn{txnOf(1, a[0].Session, a[0].Seq, put(2, 2)), a[1]}},
	}
	ahead := ownTxns(40, 4)
	for _, one := range lasts {
		for _, other := range lasts {
			later, earlier := isBeginningByHand(one.has, other.has), isBeginningByHand(other.has, one.has)
			wantLaterOrders(t, one.what+" alone, "+other.what, []impl.Instance{one.x}, []impl.Instance{other.x}, later, earlier)
			for count := 1; count < 4; count++ {
				before := append(inBatches(ahead), decidedOrder(1, count-1)...)
				wantLaterOrders(t, fmt.Sprint(one.what, " behind ", count, ", ", other.what), append(slices.Clone(before), one.x), append(slices.Clone(before), other.x), later, earlier)
			}
		}
	}
	known := takenBoard(ahead...)
	wantLaterOrders(t, "taken, but all of it known", append(inBatches(ahead), known), append(inBatches(ahead), refusedBoard()), true, true)
	wantLaterOrders(t, "taken, but all of it known, and new", append(inBatches(ahead), known), append(inBatches(ahead), newBoard()), true, true)
}

// The order of a is a beginning of that of b where what was at the end of a comes later in b as well.
func TestIsLaterOfWhatComesLater(t *testing.T) {
	a, b := ownTxns(1, 2), ownTxns(5, 2)
	taken := inBatches(a)
	wantLaterOrders(t, "refused first, then taken", taken, []impl.Instance{refusedBoard(a...), takenBoard(a...)}, true, false)
	wantLaterOrders(t, "nothing first, then taken", taken, []impl.Instance{refusedBoard(), takenBoard(a...)}, true, false)
	wantLaterOrders(t, "one by one", taken, inBatches(a[:1], a[1:]), true, false)
	wantLaterOrders(t, "one by one, and more", taken, inBatches(a[:1], a[1:], b), true, false)
	wantLaterOrders(t, "one by one, in another order", taken, inBatches(a[1:], a[:1]), false, false)
	wantLaterOrders(t, "the first one, then others", taken, inBatches(a[:1], b, a[1:]), false, false)
	wantLaterOrders(t, "others first", taken, inBatches(b, a), false, false)
	wantLaterOrders(t, "refused, and never taken", taken, []impl.Instance{refusedBoard(a...), newBoard()}, false, false)
	wantLaterOrders(t, "still open", taken, []impl.Instance{refusedBoard(), openBoard(a...)}, false, false)
	wantLaterOrders(t, "still open, but there", taken, append(inBatches(a), openBoard(b...)), true, false)
	wantLaterOrders(t, "nothing decided, and much later", []impl.Instance{openBoard(a...)}, inBatches(b, a), true, false)
	wantLaterOrders(t, "nothing decided, and refused", []impl.Instance{openBoard(a...)}, []impl.Instance{refusedBoard(), refusedBoard()}, true, false)
}

// aheadOf are boards that x might be turned into, and still be right and decided.
func aheadOf(x impl.Instance) []impl.Instance {
	var list []impl.Instance
	for _, y := range turnsOf(x) {
		if impl.InstanceFault(y) == impl.OK && impl.OutcomeOf(y).Code == impl.OK {
			list = append(list, y)
		}
	}
	return list
}

// An instance ahead of the last one of a is the same in b, in all that it has, whatever comes of it.
func TestIsLaterOfInstancesAhead(t *testing.T) {
	turned := 0
	for count := 2; count <= 4; count++ {
		order := decidedOrder(count, count)
		for at := range count {
			for i, y := range append(aheadOf(order[at]), decidedBoards()[(at+count+1)%7]) {
				other := withBoard(order, at, y)
				if at < count-1 {
					wantLaterOrders(t, fmt.Sprint("turn ", i, " at ", at, " of ", count), order, other, false, false)
					wantLaterOrders(t, fmt.Sprint("turn ", i, " at ", at, " of ", count, ", and one more"), order[:count-1], other, isLaterByHand(newNodes(order[:count-1]), newNodes(other)), false)
					turned++
				} else {
					one, two := newNodes(order), newNodes(other)
					wantLater(t, fmt.Sprint("turn ", i, " at the last place of ", count), one, two, isLaterByHand(one, two), isLaterByHand(two, one))
				}
			}
		}
	}
	if turned < 50 {
		t.Errorf("%d turns alone", turned)
	}
}

// One vote more, of which nothing comes: ahead of the last one it is another instance, at the last place it is not asked.
func TestIsLaterOfOneVoteMore(t *testing.T) {
	was, is := boardBy(ownTxns(9, 1), "1..", "11. 11."), boardBy(ownTxns(9, 1), "1..", "11. 11.", "1.. ...")
	decided := boardBy(ownTxns(9, 1), "11.", "11. 11.")
	for count := 1; count <= 4; count++ {
		for at := range count {
			for _, x := range []impl.Instance{is, decided} {
				a, b := withBoard(fullOrder()[:count], at, was), withBoard(fullOrder()[:count], at, x)
				wantLaterOrders(t, fmt.Sprint("at ", at, " of ", count), a, b, at == count-1, at == count-1)
				if count < 4 {
					longer := append(slices.Clone(b), newBoard())
					wantLaterOrders(t, fmt.Sprint("at ", at, " of ", count, ", and a new one"), a, longer, at == count-1, false)
				}
			}
		}
	}
}

// A fault of a alone, of b alone, and of both.
func TestIsLaterOfAFault(t *testing.T) {
	right := []impl.Cluster{impl.NewCluster().Cluster, variedCluster(), newNodes(fullOrder()), variedClusterOf(fullOrder())}
	for i, c := range allClusterCases() {
		one := right[i%len(right)]
		if i%3 == 0 {
			wantLater(t, c.what, c.c, one, false, false)
			wantLater(t, c.what+", and itself", c.c, c.c, false, false)
		}
		// Beside what it would be later or earlier than, were it right.
		if i%3 == 1 && impl.OrderFault(c.c.Order) == impl.OK {
			wantLater(t, c.what+", and its order", c.c, newNodes(c.c.Order), false, false)
		}
	}
	order := fullOrder()
	for what, wrong := range map[string]impl.Cluster{"nothing": {}, "no nodes": clusterOf(order), "two nodes": clusterOf(order, impl.Node{}, impl.Node{}), "four nodes": clusterOf(order, make([]impl.Node, 4)...), "a node out of its bounds": withNode(newNodes(order), 1, impl.Node{Known: 5}),
		"a node that parts": withNode(newNodes(order), 2, parted(order, 3)), "five instances": newNodes(decidedOrder(0, 5)), "an open one ahead": newNodes([]impl.Instance{newBoard(), newBoard()}), "no order": newNodes(nil), "no votes": newNodes([]impl.Instance{{}})} {
		wantLater(t, what+", and a right one", wrong, newNodes(order), false, false)
		wantLater(t, what+", and a new one", wrong, impl.NewCluster().Cluster, false, false)
		wantLater(t, what+", and itself", wrong, wrong, false, false)
		wantLater(t, what+", and nothing", wrong, impl.Cluster{}, false, false)
	}
}
