package tests

import (
	"fmt"
	"reflect"
	"slices"
	"testing"

	"loop.example/g00631/impl"
)

// Promise 14, of whole runs: lists of steps, one behind the other, from a new cluster on.

// runStep draws one step: mostly one that may come next at c, sometimes one that has a code wherever it comes.
func (d *drawn) runStep(c impl.Cluster) impl.Step {
	switch draw := d.below(24); {
	case draw < 5:
		return submitting(int64(d.below(3)), d.batch()[0])
	case draw < 7:
		return offering(int64(1 + d.below(4)))
	case draw < 9:
		return opening()
	case draw < 12:
		return asking(int64(d.below(3)), d.from([]int64{1, 1, 2, 2, 3, 4, 4}))
	case draw < 13:
		faulty := slices.Concat(faultySteps(), []impl.Step{submitting(3, own(90, put(1, 1))), submitting(0, own(90)), offering(5), asking(1, 5), voting(impl.Vote{}, 3)})
		return faulty[d.below(len(faulty))]
	}
	v, mask := d.cast(lastOf(c))
	return voting(v, mask)
}

// runSteps draws at most 20 steps, by what the ones ahead come to.
func (d *drawn) runSteps(c impl.Cluster) []impl.Step {
	var list []impl.Step
	for range d.below(21) {
		s := d.runStep(c)
		list = append(list, s)
		if then := impl.DoStep(c, s); then.Code == impl.OK {
			c = then.Cluster
		}
	}
	return list
}

// hasWhole asks for one that is the same in all, not in its names alone.
func hasWhole(list []impl.Txn, txn impl.Txn) bool {
	return slices.ContainsFunc(list, func(other impl.Txn) bool {
		return reflect.DeepEqual(emptyAsNil(other), emptyAsNil(txn))
	})
}

// heldIn are all transactions that a cluster has anywhere: in the order, in batches, and at its nodes.
func heldIn(c impl.Cluster) []impl.Txn {
	all := impl.DefiniteOf(c.Order, impl.DecidedIn(c.Order).Value).Txns
	for _, x := range c.Order {
		all = append(all, x.Batch...)
	}
	for _, n := range c.Nodes {
		all = append(append(all, n.Replica.Done...), n.Replica.Tent...)
	}
	return all
}

// wantAskedFor: all that is anywhere in c was submitted, or was there ahead of it all.
func wantAskedFor(t *testing.T, what string, c impl.Cluster, asked []impl.Txn) {
	t.Helper()
	for _, txn := range heldIn(c) {
		if !hasWhole(asked, txn) {
			t.Errorf("%s: %+v is there, and nobody asked for it", what, txn)
		}
	}
}

// wantFallsAlone: a node has less Done, or less that it knows, by a crash alone.
func wantFallsAlone(t *testing.T, what string, was, then impl.Cluster, list []impl.Step) {
	t.Helper()
	if impl.HasCrash(list) {
		return
	}
	for at, n := range was.Nodes {
		if then.Nodes[at].Known < n.Known || !impl.IsPrefix(n.Replica.Done, then.Nodes[at].Replica.Done) {
			t.Errorf("%s: node %d has lost something, and did not fall", what, at)
		}
	}
}

// runMet counts what came up in the runs.
type runMet struct {
	codes                  map[string]int
	ends                   map[string]int
	empty, full, fall, got int
}

func (m *runMet) see(list []impl.Step, got impl.RunResult) {
	for at, s := range list {
		m.codes[fmt.Sprint(s.Kind, " code ", min(got.Codes[at], 1))]++
	}
	switch len(list) {
	case 0:
		m.empty++
	case 20:
		m.full++
	}
	if impl.HasCrash(list) {
		m.fall++
	}
}

func runLists(t *testing.T, seed int, m *runMet) {
	d := drawn(seed)
	c := impl.NewCluster().Cluster
	var asked []impl.Txn
	for at := range 36 {
		what := fmt.Sprint("run ", seed, ", list ", at)
		list, was := d.runSteps(c), copied(c).(impl.Cluster)
		got := wantRunOf(t, what, c, list)
		wantSameClusters(t, what+": the argument", c, was, true)
		asked = append(asked, impl.SubmittedIn(list).Txns...)
		wantAskedFor(t, what, got.Cluster, asked)
		wantOneOrder(t, what, got.Cluster.Nodes)
		wantFallsAlone(t, what, c, got.Cluster, list)
		if at%12 == seed%12 {
			wantRunInParts(t, what, c, list, got)
		}
		if t.Failed() {
			t.FailNow()
		}
		m.see(list, got)
		c = got.Cluster
	}
	m.ends[fmt.Sprint(len(c.Order), " instances")]++
	for _, n := range c.Nodes {
		m.got += len(n.Replica.Done)
	}
}

func TestRunsOfLists(t *testing.T) {
	m := runMet{codes: map[string]int{}, ends: map[string]int{}}
	for seed := range 60 {
		runLists(t, seed, &m)
	}
	for kind := range int64(5) {
		for code := range int64(2) {
			if what := fmt.Sprint(kind+1, " code ", code); m.codes[what] < 20 {
				t.Errorf("%s: too few of %v", what, m.codes)
			}
		}
	}
	for what, often := range map[string]int{"no steps": m.empty, "twenty steps": m.full, "a list with a crash": m.fall, "Done in the end": m.got} {
		if often < 20 {
			t.Errorf("%s: %d alone, these runs try too little", what, often)
		}
	}
	for _, end := range []string{"2 instances", "3 instances", "4 instances"} {
		if m.ends[end] < 3 {
			t.Errorf("%s: too few of %v", end, m.ends)
		}
	}
}

// Whatever there was ahead of the steps, nothing comes to it but what they submit.
func TestStepsBringNothingElse(t *testing.T) {
	at := 0
	overClusters(func(what string, c impl.Cluster) {
		if at++; at%4 != 0 {
			return
		}
		d := drawn(at)
		list := d.runSteps(c)
		got := wantRunOf(t, what, c, list)
		wantAskedFor(t, what, got.Cluster, append(heldIn(c), impl.SubmittedIn(list).Txns...))
		silent := slices.DeleteFunc(slices.Clone(list), func(s impl.Step) bool { return s.Kind == impl.DoSubmit })
		wantAskedFor(t, what+", nobody asks", wantRunOf(t, what, c, silent).Cluster, heldIn(c))
		wantRunInParts(t, what, c, list, got)
	})
}

// From a new cluster on, where nobody asks for anything, nothing comes to be anywhere, whatever else is done.
func TestNobodyAsks(t *testing.T) {
	for seed := range 40 {
		d := drawn(seed)
		c := impl.NewCluster().Cluster
		for at := range 6 {
			list := slices.DeleteFunc(d.runSteps(c), func(s impl.Step) bool { return s.Kind == impl.DoSubmit })
			c = wantRunOf(t, fmt.Sprint("run ", seed, ", list ", at), c, list).Cluster
			wantAskedFor(t, fmt.Sprint("run ", seed, ", list ", at), c, nil)
		}
		for _, n := range c.Nodes {
			if len(n.Replica.Base) != 0 || len(n.Replica.Now) != 0 {
				t.Errorf("run %d: items %v, %v", seed, n.Replica.Base, n.Replica.Now)
			}
		}
	}
}

// What a step with a code would have submitted is in no order, even where all else of the list is done and decided.
func TestRefusedSubmitsAreInNoOrder(t *testing.T) {
	right, refused := own(1, put(1, 5)), []impl.Step{submitting(0, own(2, put(0, 5))), submitting(3, own(3, put(1, 5))), {Kind: 1, N: 1, Txn: own(4, put(1, 5))}, submitting(0, txnOf(1, 5, 5, put(1, 6)))}
	for i, s := range refused {
		list := []impl.Step{submitting(0, right), s, offering(4), voting(report(0, 0, 1), 0), voting(report(0, 1, 1), 0), voting(proposal(0, 0, 0), 3), voting(proposal(0, 1, 0), 3), voting(ending(0, 0), 3), asking(0, 4), asking(1, 4), asking(2, 4), opening()}
		got := wantRunOf(t, fmt.Sprint("refused ", i), impl.NewCluster().Cluster, list)
		if got.Codes[1] == impl.OK || !slices.Equal(got.Codes[2:], make([]int64, 10)) {
			t.Errorf("refused %d: codes %v", i, got.Codes)
		}
		for node := range got.Cluster.Nodes {
			wantSame(t, fmt.Sprint("Done at ", node), got.Cluster.Nodes[node].Replica.Done, []impl.Txn{right}, true)
		}
		wantTxns(t, "the order", impl.DefiniteOf(got.Cluster.Order, 1), right)
	}
}
