package tests

import (
	"fmt"
	"slices"
	"testing"

	"loop.example/g00631/impl"
)

// Promise 15, of whole runs: of any two nodes what the one has done is a beginning of what the other one has; whatever happens, crashes as they come, the order that was is a beginning of the order that is.

// auditMet counts what came up in the runs.
type auditMet struct {
	falls, lost, grown, stayed, apart int
	ends                              map[string]int
}

// wantSafe: every instance of a right cluster is safe.
func wantSafe(t *testing.T, what string, c impl.Cluster) {
	t.Helper()
	for at, x := range c.Order {
		wantBool(t, fmt.Sprint(what, ": the instance ", at, " is safe"), impl.SafeOf(x), true)
	}
}

// wantGoneOn: then is what came of was, and all that is promised of both holds.
func wantGoneOn(t *testing.T, what string, was, then impl.Cluster) {
	t.Helper()
	wantInLine(t, what, then)
	wantSafe(t, what, then)
	wantAudited(t, what, then)
	wantLater(t, what, was, then, true, isLaterByHand(then, was))
	before, behind := impl.AuditCluster(was), impl.AuditCluster(then)
	if behind.Decided < before.Decided || behind.Done < before.Done {
		t.Errorf("%s: %+v went to %+v", what, before, behind)
	}
}

// see counts a step that turned something.
func (m *auditMet) see(s impl.Step, was, then impl.Cluster) {
	before, behind := impl.AuditCluster(was), impl.AuditCluster(then)
	if impl.HasCrash([]impl.Step{s}) {
		m.falls++
		m.lost += int(before.Least - behind.Least)
	}
	count(behind.Done > before.Done, &m.grown, &m.stayed)
	if behind.Least < behind.Done {
		m.apart++
	}
}

// runAudits holds each cluster against the one ahead of it, and the one at the end against all of them.
func runAudits(t *testing.T, seed int, m *auditMet) {
	d := drawn(seed)
	clusters := []impl.Cluster{impl.NewCluster().Cluster}
	for at := range 700 {
		what := fmt.Sprint("run ", seed, ", step ", at)
		c := clusters[len(clusters)-1]
		s := d.runStep(c)
		got := impl.DoStep(c, s)
		if got.Code != impl.OK {
			continue
		}
		wantGoneOn(t, what, c, got.Cluster)
		m.see(s, c, got.Cluster)
		clusters = append(clusters, got.Cluster)
		if t.Failed() {
			t.FailNow()
		}
	}
	wantLine(t, fmt.Sprint("run ", seed), clusters)
	end := impl.AuditCluster(clusters[len(clusters)-1])
	m.ends[fmt.Sprint(end.Decided, " decided")]++
}

// wantLine: of any two clusters of a run the one that comes behind is the later one.
func wantLine(t *testing.T, what string, clusters []impl.Cluster) {
	t.Helper()
	step := max(1, len(clusters)/12)
	for i := 0; i < len(clusters); i += step {
		for j := i; j < len(clusters); j += step {
			one, other := clusters[i], clusters[j]
			wantLater(t, fmt.Sprint(what, ": the clusters ", i, " and ", j), one, other, true, isLaterByHand(other, one))
		}
	}
}

func TestAuditsOfWholeRuns(t *testing.T) {
	m := auditMet{ends: map[string]int{}}
	for seed := range 20 {
		runAudits(t, seed, &m)
	}
	for what, often := range map[string]int{"falls": m.falls, "lost by falls": m.lost, "longer orders": m.grown, "orders as long": m.stayed, "nodes apart": m.apart} {
		if often < 20 {
			t.Errorf("%s: %d alone, these runs try too little", what, often)
		}
	}
	for _, end := range []string{"3 decided", "4 decided"} {
		if m.ends[end] < 3 {
			t.Errorf("%s: too few of %v", end, m.ends)
		}
	}
}

// Whatever a cluster is like ahead of the steps, what comes of them is later.
func TestRunsFromEveryClusterGoOn(t *testing.T) {
	falls := 0
	for i, c := range rightClusters() {
		if i%2 != 0 {
			continue
		}
		d := drawn(i)
		list := d.runSteps(c)
		got := impl.RunSteps(c, list)
		what := fmt.Sprint("cluster ", i)
		wantCode(t, what, got.Code, impl.OK)
		wantGoneOn(t, what, c, got.Cluster)
		if impl.HasCrash(list) {
			falls++
		}
	}
	if falls < 20 {
		t.Errorf("%d lists with a crash alone", falls)
	}
}

// At every cluster each node falls, and then the next one: the order stays, and so does what both have in common.
func TestFallsLeaveTheOrder(t *testing.T) {
	overClusters(func(what string, c impl.Cluster) {
		audit := impl.AuditCluster(c)
		for node := range int64(3) {
			fallen := impl.DoStep(c, asking(node, 3)).Cluster
			both := impl.DoStep(fallen, asking((node+1)%3, 3)).Cluster
			for _, then := range []impl.Cluster{fallen, both} {
				wantInLine(t, what, then)
				wantLater(t, fmt.Sprint(what, ", fallen from ", node), c, then, true, true)
				if behind := impl.AuditCluster(then); behind.Decided != audit.Decided || behind.Done != audit.Done || behind.Least > audit.Least || behind.Tent > audit.Tent {
					t.Errorf("%s: %+v went to %+v", what, audit, behind)
				}
			}
			if was, is := impl.DoneAt(c, node), impl.DoneAt(both, node); !isBeginningByHand(is.Txns, was.Txns) {
				t.Errorf("%s: at %d %+v went to %+v", what, node, was, is)
			}
		}
	})
}

// A run by hand: what is told of it, step by step.
func TestAuditsStepByStep(t *testing.T) {
	list, codes, _ := richSteps()
	c := impl.NewCluster().Cluster
	wantAudit(t, "ahead of all", c, 0, 0, 0, 0)
	audits := [][4]int64{{0, 0, 0, 1}, {0, 0, 0, 1}, {0, 0, 0, 2}, {0, 0, 0, 3}, {0, 0, 0, 3}, {0, 0, 0, 3}, {0, 0, 0, 3}, {0, 0, 0, 3}, {0, 0, 0, 3}, {0, 0, 0, 3}, {0, 0, 0, 3}, {0, 0, 0, 3}, {0, 0, 0, 3},
		{1, 2, 0, 3}, {1, 2, 0, 2}, {1, 2, 0, 2}, {1, 2, 0, 2}, {1, 2, 0, 2}, {1, 2, 0, 2}, {1, 2, 0, 2}}
	for at, s := range list {
		what, was := fmt.Sprint("step ", at), c
		if then := impl.DoStep(c, s); then.Code == impl.OK {
			c = then.Cluster
		} else {
			wantCode(t, what, then.Code, codes[at])
		}
		want := audits[at]
		wantAudit(t, what, c, want[0], want[1], want[2], want[3])
		wantGoneOn(t, what, was, c)
		wantLater(t, what+", from the beginning", impl.NewCluster().Cluster, c, true, at < 13)
	}
	c = impl.RunSteps(c, []impl.Step{asking(0, 4), asking(2, 1)}).Cluster
	wantAudit(t, "all have it", c, 1, 2, 2, 0)
	a, b := own(1, put(1, 5)), own(2, remove(9))
	for node := range int64(3) {
		wantTxns(t, fmt.Sprint("Done at ", node), impl.DoneAt(c, node), a, b)
		wantItems(t, fmt.Sprint("items at ", node), impl.ItemsAt(c, node), 1, []impl.Item{item(1, 5)})
	}
}

// Two clusters that went on otherwise from one that had decided nothing are none later than the other.
func TestRunsThatPart(t *testing.T) {
	c := impl.RunSteps(impl.NewCluster().Cluster, []impl.Step{submitting(0, own(1, put(1, 5))), submitting(0, own(2, put(2, 6)))}).Cluster
	first := impl.RunSteps(c, []impl.Step{offering(1)}).Cluster
	both := impl.RunSteps(c, []impl.Step{offering(2)}).Cluster
	wantLater(t, "ahead of the end", first, both, true, true)
	one, two := wantDriven(t, "the first one", first), wantDriven(t, "both", both)
	wantLater(t, "one is the beginning of both", one, two, true, false)
	refused := impl.RunSteps(both, []impl.Step{voting(report(0, 0, 0), 0), voting(report(0, 1, 0), 0), voting(proposal(0, 0, 0), 3), voting(proposal(0, 1, 0), 3), voting(ending(1, 0), 3)}).Cluster
	wantLater(t, "refused", refused, two, true, false)
	wantInt(t, "it is so", impl.OutcomeOf(lastOf(refused)), 0)
	next := impl.DoStep(refused, opening()).Cluster
	wantLater(t, "refused, and a new one", next, two, false, false)
	for _, c := range []impl.Cluster{first, both, one, two, refused, next} {
		wantLater(t, "from the beginning", impl.NewCluster().Cluster, c, true, !slices.ContainsFunc([]impl.Cluster{one, two, next}, func(other impl.Cluster) bool { return isSameCluster(c, other) }))
	}
}
