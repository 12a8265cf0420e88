package tests

import (
	"fmt"
	"slices"
	"testing"

	"loop.example/g00631/impl"
)

// Promise 13, of whole runs: whatever is done, in whatever order, the cluster is right; what is offered is what the candidate has, and each one is the candidate in its turn.

// clusterMet counts what came up in the runs.
type clusterMet struct {
	submitted, refused, offered, notOffered, voted, notVoted, opened, notOpened, asked, backs int
	ends                                                                                      map[string]int
}

func count(isSo bool, yes, no *int) {
	if isSo {
		*yes++
	} else {
		*no++
	}
}

// clusterStep draws one step, and asks all that is promised of it.
func (d *drawn) clusterStep(t *testing.T, what string, c impl.Cluster, m *clusterMet) impl.ClusterResult {
	t.Helper()
	switch draw := d.below(20); {
	case draw < 4:
		got := wantSubmitted(t, what, c, d.below(3), d.batch()[0])
		count(got.Code == impl.OK, &m.submitted, &m.refused)
		return got
	case draw < 6:
		got := wantOffered(t, what, c, int64(d.below(6)))
		count(got.Code == impl.OK, &m.offered, &m.notOffered)
		return got
	case draw < 7:
		got := wantOpened(t, what, c)
		count(got.Code == impl.OK, &m.opened, &m.notOpened)
		return got
	case draw < 10:
		ask := int64(1 + d.below(4))
		got := wantAsked(t, what, c, d.below(3), ask)
		count(got.Code == impl.OK, &m.asked, &m.refused)
		if ask == 1 {
			m.backs += int(got.Answer)
		}
		return got
	}
	v, mask := d.cast(lastOf(c))
	got := wantCast(t, what, c, v, mask)
	count(got.Code == impl.OK, &m.voted, &m.notVoted)
	return got
}

// cast draws a vote that may come next at x; where there is no batch yet it waits a while.
func (d *drawn) cast(x impl.Instance) (impl.Vote, int64) {
	node, mask := d.from(nodes), d.from(quorums)
	if d.below(20) == 0 {
		mask = int64(d.below(12)) - 2
	}
	switch draw := d.below(8); {
	case !x.Has && draw < 6:
		return impl.Vote{Kind: impl.VoteProp, Round: int64(d.below(5)), Node: node}, mask
	case draw < 2:
		return report(int64(d.below(6)/5), node, d.from([]int64{0, 1, 1})), mask
	case draw < 5:
		return proposal(int64(max(0, len(x.Rounds)-1-d.below(2))), node, int64(d.below(3))), mask
	}
	return ending(node, d.from(twoCoins)), mask
}

// wantInTurn: with each instance that comes the next one is the candidate.
func wantInTurn(t *testing.T, what string, turns []int64) {
	t.Helper()
	if want := []int64{0, 1, 2, 0}[:len(turns)]; !slices.Equal(turns, want) {
		t.Errorf("%s: the candidates were %v, want %v", what, turns, want)
	}
}

func runCluster(t *testing.T, seed int, m *clusterMet) {
	d := drawn(seed)
	c := impl.NewCluster().Cluster
	turns := []int64{impl.CandidateOf(c).Value}
	for at := range 300 {
		what := fmt.Sprint("run ", seed, ", step ", at)
		was := copied(c).(impl.Cluster)
		got := d.clusterStep(t, what, c, m)
		wantSameClusters(t, what+": the argument", c, was, true)
		if got.Code == impl.OK {
			wantGrown(t, what, c.Order, got.Cluster.Order)
			wantOneOrder(t, what, got.Cluster.Nodes)
			if len(got.Cluster.Order) > len(c.Order) {
				turns = append(turns, impl.CandidateOf(got.Cluster).Value)
			}
			c = got.Cluster
		}
		if t.Failed() {
			t.FailNow()
		}
	}
	wantInTurn(t, fmt.Sprint("run ", seed), turns)
	for _, x := range c.Order {
		m.ends[fmt.Sprint("Has ", x.Has, ", ", impl.OutcomeOf(x))]++
	}
	m.ends[fmt.Sprint(len(c.Order), " instances")]++
	wantAllCaughtUp(t, fmt.Sprint("run ", seed), c)
}

// wantAllCaughtUp: nodes that catch up, write down and fall are one and the same, whatever they went through.
func wantAllCaughtUp(t *testing.T, what string, c impl.Cluster) {
	t.Helper()
	decided := decidedByHand(c.Order)
	for node := range int64(3) {
		for _, ask := range []int64{4, 2, 3} {
			c = wantAsked(t, what+", the end", c, int(node), ask).Cluster
		}
		wantSameNodes(t, fmt.Sprint(what, ", the end of ", node), c.Nodes[node], nodeBy(c.Order, decided, decided), true)
	}
	wantSameClusters(t, what+", the end", c, clusterOf(c.Order, c.Nodes[0], c.Nodes[0], c.Nodes[0]), true)
}

func TestClustersInWholeRuns(t *testing.T) {
	m := clusterMet{ends: map[string]int{}}
	for seed := range 80 {
		runCluster(t, seed, &m)
	}
	for what, often := range map[string]int{"submitted": m.submitted, "refused": m.refused, "offered": m.offered, "not offered": m.notOffered, "voted": m.voted, "not voted": m.notVoted, "opened": m.opened, "not opened": m.notOpened, "asked": m.asked, "taken back": m.backs} {
		if often < 50 {
			t.Errorf("%s: %d alone, these runs try too little", what, often)
		}
	}
	for _, end := range []string{"Has true, {0 0}", "Has true, {0 1}", "Has true, {4 0}", "Has false, {4 0}", "2 instances", "3 instances", "4 instances"} {
		if m.ends[end] < 3 {
			t.Errorf("%s: too few of %v", end, m.ends)
		}
	}
}

// wantDriven lets nodes 0 and 1 report 1, propose and decide, by each other.
func wantDriven(t *testing.T, what string, c impl.Cluster) impl.Cluster {
	t.Helper()
	for _, v := range []impl.Vote{report(0, 0, 1), report(0, 1, 1), proposal(0, 0, 0), proposal(0, 1, 0), ending(0, 0), ending(1, 0)} {
		c = wantCast(t, what, c, v, 3).Cluster
	}
	return c
}

// Instance by instance, each one offers in its turn what it has heard, and all come to have it.
func TestAClusterStepByStep(t *testing.T) {
	c := impl.NewCluster().Cluster
	var all []impl.Txn
	for turn, candidate := range []int64{0, 1, 2, 0} {
		what := fmt.Sprint("turn ", turn)
		wantInt(t, what, impl.CandidateOf(c), candidate)
		fresh := ownTxns(int64(10*turn+1), 2)
		for _, txn := range fresh {
			c = wantSubmitted(t, what, c, int(candidate), txn).Cluster
		}
		other := ownTxns(int64(10*turn+5), 1)[0]
		c = wantSubmitted(t, what, c, int(candidate+1)%3, other).Cluster
		got := wantOffered(t, what, c, 2)
		offered := lastOf(got.Cluster).Batch
		wantSame(t, what+": offered", offered, c.Nodes[candidate].Replica.Tent[:2], true)
		all = append(all, offered...)
		wantClusterCode(t, what+": not decided", impl.OpenNext(got.Cluster), impl.ErrState)
		c = wantDriven(t, what, got.Cluster)
		for node := range 3 {
			c = wantAsked(t, what, c, node, 1).Cluster
			wantSame(t, fmt.Sprint(what, ", node ", node), c.Nodes[node].Replica.Done, all, true)
			wantClusterCode(t, what+": nothing more", impl.AtNode(c, int64(node), 1), impl.ErrNone)
		}
		if turn < 3 {
			c = wantOpened(t, what, c).Cluster
		}
		if t.Failed() {
			t.FailNow()
		}
	}
	wantClusterCode(t, "no room for more", impl.OpenNext(c), impl.ErrFull)
	if len(all) != 8 || len(c.Order) != 4 {
		t.Errorf("%d transactions in %d instances", len(all), len(c.Order))
	}
}

// Whatever comes between, what was offered stays as it was: more that is heard, more votes, a crash of the candidate.
func TestWhatIsOfferedStays(t *testing.T) {
	c := holding([]impl.Instance{newBoard()}, 3, 1, 0)
	offered := wantOffered(t, "two of three", c, 2).Cluster
	batch := lastOf(offered).Batch
	later := wantSubmitted(t, "one more", offered, 0, own(60, put(1, 1))).Cluster
	fallen := wantAsked(t, "the candidate falls", later, 0, 3).Cluster
	wantSame(t, "behind it", lastOf(fallen).Batch, batch, true)
	wantClusterCode(t, "nothing to offer, and a batch", impl.OfferBatch(fallen, 1), impl.ErrNone)
	heard := wantSubmitted(t, "it hears another one", fallen, 0, own(61, put(1, 1))).Cluster
	wantClusterCode(t, "a batch is there", impl.OfferBatch(heard, 1), impl.ErrTaken)
	decided := wantDriven(t, "to the end", heard)
	for node := range 3 {
		decided = wantAsked(t, "all catch up", decided, node, 4).Cluster
		wantSame(t, fmt.Sprint("Done at ", node), decided.Nodes[node].Replica.Done, batch, true)
	}
	wantInt(t, "the next one's turn", impl.CandidateOf(wantOpened(t, "the next one", decided).Cluster), 1)
}
