package tests

import (
	"fmt"
	"testing"

	"loop.example/g00631/impl"
)

// Promise 12, of whole runs: nodes learn, hear, write down, fall and catch up in whatever order, while the order that they go by grows.

// met counts what came up in the runs.
type met struct {
	learned, none, backs, heard, taken, lost, kept, caught int
}

// nodeStep draws one step of n, and asks all that is promised of it.
func (d *drawn) nodeStep(t *testing.T, what string, order []impl.Instance, n impl.Node, m *met) impl.Node {
	t.Helper()
	switch d.below(14) {
	case 0:
		return wantSynced(t, what, order, n).Node
	case 1:
		keep := int64(d.below(3))
		fallen := wantFallen(t, what, order, n, keep).Node
		if fallen.Known < n.Known {
			m.lost++
		} else if n.Safe < n.Known {
			m.kept++
		}
		return fallen
	case 2:
		got := wantCaughtUp(t, what, order, n)
		m.caught += int(got.Answer)
		return got.Node
	case 3, 4, 5, 6:
		return d.learnStep(t, what, order, n, m)
	}
	return d.hearStep(t, what, order, n, m)
}

func (d *drawn) learnStep(t *testing.T, what string, order []impl.Instance, n impl.Node, m *met) impl.Node {
	t.Helper()
	got := wantLearned(t, what, order, n)
	if got.Code != impl.OK {
		m.none++
		return n
	}
	m.learned++
	m.backs += int(got.Answer)
	return got.Node
}

// hearStep hears what the last board offers, or what nobody has offered yet.
func (d *drawn) hearStep(t *testing.T, what string, order []impl.Instance, n impl.Node, m *met) impl.Node {
	t.Helper()
	heard := d.batch()
	if last := order[len(order)-1].Batch; len(last) > 0 && d.below(3) > 0 {
		heard = last
	}
	got := wantHeard(t, what, order, n, heard[d.below(len(heard))])
	if got.Code != impl.OK {
		m.taken++
		return n
	}
	m.heard++
	return got.Node
}

// wantOneOrder: of any two nodes what the one has Done is a beginning of what the other one has.
func wantOneOrder(t *testing.T, what string, nodes []impl.Node) {
	t.Helper()
	for _, a := range nodes {
		for _, b := range nodes {
			if a.Known <= b.Known && !impl.IsPrefix(a.Replica.Done, b.Replica.Done) {
				t.Errorf("%s: %+v is no beginning of %+v", what, a.Replica.Done, b.Replica.Done)
			}
		}
	}
}

func runNodes(t *testing.T, seed int, m *met) {
	d := drawn(seed)
	order := []impl.Instance{impl.NewInstance().Instance}
	nodes := make([]impl.Node, 3)
	for at := range 400 {
		what := fmt.Sprint("run ", seed, ", step ", at)
		if step := d.step(order); step.Code == impl.OK {
			order = step.Order
		}
		who := d.below(3)
		// The order has grown since: a node that was right is right.
		wantCode(t, what, impl.NodeFault(order, nodes[who]), impl.OK)
		if at%3 == 0 {
			nodes[who] = d.nodeStep(t, what, order, nodes[who], m)
			wantOneOrder(t, what, nodes)
		}
		if t.Failed() {
			t.FailNow()
		}
	}
	for who := range nodes {
		nodes[who] = wantCaughtUp(t, fmt.Sprint("run ", seed, ", the end"), order, nodes[who]).Node
		nodes[who] = wantFallen(t, fmt.Sprint("run ", seed, ", the last fall"), order, wantSynced(t, "the end", order, nodes[who]).Node, 0).Node
		wantSameNodes(t, fmt.Sprint("run ", seed, ": all are one in the end"), nodes[who], nodes[0], true)
	}
}

func TestNodesInWholeRuns(t *testing.T) {
	var m met
	for seed := range 60 {
		runNodes(t, seed, &m)
	}
	for what, count := range map[string]int{"learned": m.learned, "nothing to learn": m.none, "taken back": m.backs, "heard": m.heard, "there already": m.taken, "lost by a fall": m.lost, "kept in a fall": m.kept, "caught up": m.caught} {
		if count < 20 {
			t.Errorf("%s: %d alone, these runs try too little", what, count)
		}
	}
}

// Whoever falls, in whatever way, and catches up has what those have that never fell.
func TestFallsAlongTheWayLeaveNoTrace(t *testing.T) {
	for seed := range 40 {
		d := drawn(seed)
		order := grownOrder(seed, func([]impl.Instance, impl.OrderResult) {})
		decided := decidedByHand(order)
		var n impl.Node
		for range 12 {
			for range d.below(4) {
				if got := impl.Hear(order, n, d.batch()[0]); got.Code == impl.OK {
					n = got.Node
				}
			}
			if got := impl.Learn(order, n); got.Code == impl.OK {
				n = got.Node
			}
			if d.below(3) == 0 {
				n = impl.SyncNode(order, n).Node
			}
			if d.below(2) == 0 {
				safe := n.Safe
				n = impl.CrashNode(order, n, int64(d.below(2))).Node
				if n.Safe < safe || n.Safe != n.Known || len(n.Replica.Tent) > 0 {
					t.Errorf("seed %d: %d was safe, and it fell to %+v", seed, safe, n)
				}
			}
		}
		n = impl.CrashNode(order, impl.SyncNode(order, impl.CatchUp(order, n).Node).Node, 0).Node
		wantSameNodes(t, fmt.Sprint("seed ", seed), n, nodeBy(order, decided, decided), true)
	}
}
