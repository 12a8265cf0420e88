package tests

import (
	"fmt"
	"slices"
	"testing"

	"loop.example/g00631/impl"
)

// Promise 16, of whole runs: where a quorum is up, and hears itself, what is voted on comes to an end, at the latest with the first coin; what was asked of a cluster whose board is free is done everywhere, and once; where all hear the same in the same order, what was done ahead of its time is what is done for good.

// askedAt submits list at a node, one by one.
func askedAt(t *testing.T, what string, c impl.Cluster, node int, list ...impl.Txn) impl.Cluster {
	t.Helper()
	for _, txn := range list {
		got := impl.Submit(c, int64(node), txn)
		wantCode(t, what, got.Code, impl.OK)
		c = got.Cluster
	}
	return c
}

// wantDoneOnce: each of list is Done at every node, once and as it was asked, and waits nowhere.
func wantDoneOnce(t *testing.T, what string, c impl.Cluster, list ...impl.Txn) {
	t.Helper()
	for _, txn := range list {
		for at, n := range c.Nodes {
			times := 0
			for _, done := range n.Replica.Done {
				if standsFor(done, txn) {
					times++
				}
			}
			if times != 1 || !hasWhole(n.Replica.Done, txn) || impl.HasTxn(n.Replica.Tent, txn) {
				t.Errorf("%s: node %d has %+v %d times in %+v", what, at, txn, times, n.Replica)
			}
		}
	}
}

// What the candidate was asked for, as far as it is a batch, is done everywhere by one drive, whoever else was asked for it, or for something else, and whoever is up.
func TestWhatIsAskedIsDoneEverywhere(t *testing.T) {
	list := []impl.Txn{own(20, put(1, 5), add(2, 1)), own(21, remove(9)), own(22, add(1, 1)), own(23, holds(1, 6), put(3, 3))}
	for turn, candidate := range turnOf {
		for count := range 5 {
			for others := range 8 {
				free := newNodes(freeOrder(turn, newBoard()))
				c := askedAt(t, "asked", free, candidate, list[:count]...)
				for at := range 3 {
					if others&(1<<at) != 0 && at != candidate {
						c = askedAt(t, "asked too", c, at, own(30+int64(at), put(4, 4)))
						c = askedAt(t, "asked too", c, at, list[:count]...)
					}
				}
				for _, mask := range quorums {
					what := fmt.Sprint(count, " in turn ", turn, ", others ", others)
					got := wantAll(t, what, c, mask)
					wantDoneOnce(t, what, got.Cluster, list[:count]...)
					if want := min(int64(count), 1); got.Code != impl.OK || got.Rounds != 1 || got.Value != want {
						t.Errorf("%s: code %d, %d rounds, value %d, want %d", what, got.Code, got.Rounds, got.Value, want)
					}
				}
			}
		}
	}
}

// inTurns drives and opens until there is no room for more.
func inTurns(t *testing.T, what string, c impl.Cluster, masks ...int64) impl.Cluster {
	t.Helper()
	for at, mask := range masks {
		got := wantAll(t, fmt.Sprint(what, ", turn ", at), c, mask)
		wantCode(t, what, got.Code, impl.OK)
		c = got.Cluster
		if at < len(masks)-1 {
			c = wantOpened(t, what, c).Cluster
		}
	}
	return c
}

// Whichever node was asked: when each one has been the candidate, all of it is done, everywhere and once.
func TestWhatIsAskedOfAnyNodeIsDoneInItsTurn(t *testing.T) {
	for first := range 3 {
		for second := range 3 {
			for i, mask := range quorums {
				what := fmt.Sprint("asked at ", first, " and ", second, " by ", mask)
				one, both, other := own(20, put(1, 5)), own(21, add(1, 2)), own(22, add(1, 3), put(7, 7))
				c := askedAt(t, what, impl.NewCluster().Cluster, first, one, both)
				if first != second {
					c = askedAt(t, what, c, second, other, both)
				} else {
					c = askedAt(t, what, c, second, other)
				}
				then := inTurns(t, what, c, mask, quorums[(i+1)%4], quorums[(i+2)%4])
				wantDoneOnce(t, what, then, one, both, other)
				wantAudit(t, what, then, 3, 3, 3, 0)
			}
		}
	}
}

// The fullest nodes: in four turns node 0 has two batches, and the others one each.
func TestAllTurnsOfFullNodes(t *testing.T) {
	for _, masks := range [][]int64{{3, 5, 6, 7}, {7, 7, 7, 7}, {6, 6, 5, 3}, {5, 3, 3, 6}} {
		what := fmt.Sprint("masks ", masks)
		c := holding([]impl.Instance{newBoard()}, 8, 8, 8)
		then := inTurns(t, what, c, masks...)
		wantDoneOnce(t, what, then, slices.Concat(ownTxns(40, 4), ownTxns(50, 4), ownTxns(60, 4), ownTxns(44, 4))...)
		for at := range int64(3) {
			wantTxns(t, what, impl.DoneAt(then, at), slices.Concat(ownTxns(40, 4), ownTxns(50, 4), ownTxns(60, 4), ownTxns(44, 4))...)
		}
		wantAudit(t, what, then, 4, 16, 16, 8)
	}
}

// One that was asked at two nodes, of which the one had not heard yet that it is done: it is offered again, and done once.
func TestWhatIsOfferedTwiceIsDoneOnce(t *testing.T) {
	twice, more := own(20, add(1, 5)), own(21, add(1, 1))
	for _, mask := range quorums {
		what := fmt.Sprint("by ", mask)
		c := askedAt(t, what, askedAt(t, what, impl.NewCluster().Cluster, 0, twice), 1, twice, more)
		first := wantEnd(t, what, wantOffered(t, what, c, 4).Cluster, mask, 0)
		opened := wantOpened(t, what, first.Cluster).Cluster
		second := wantAll(t, what, opened, mask)
		wantSame(t, what+": offered", lastOf(second.Cluster).Batch, []impl.Txn{twice, more}, true)
		wantDoneOnce(t, what, second.Cluster, twice, more)
		wantItems(t, what, impl.ItemsAt(second.Cluster, 2), 1, []impl.Item{item(1, 6)})
		third := wantAll(t, what, wantOpened(t, what, second.Cluster).Cluster, mask)
		wantDoneOnce(t, what, third.Cluster, twice, more)
	}
}

// heardByAll lets all nodes hear list, in its order, and tells how it was answered ahead of its time: the same everywhere.
func heardByAll(t *testing.T, what string, c impl.Cluster, list []impl.Txn) (impl.Cluster, []impl.ReplyResult) {
	t.Helper()
	for at := range 3 {
		c = askedAt(t, what, c, at, list...)
	}
	var replies []impl.ReplyResult
	for _, txn := range list {
		reply := impl.TentOf(c.Nodes[0].Replica, txn.Id)
		for _, n := range c.Nodes {
			wantReply(t, what+": ahead", impl.TentOf(n.Replica, txn.Id), reply)
		}
		replies = append(replies, reply)
	}
	return c, replies
}

// guessedLists are heard by all in the same order: with codes and without, of every length.
func guessedLists() [][]impl.Txn {
	mixed := []impl.Txn{own(20, put(1, 5), add(2, 1)), own(21, remove(9)), own(22, holds(1, 5), add(1, 1)), own(23, holds(1, 5)), own(24, remove(2)), own(25, remove(2)), own(26, add(1, 1000), add(1, 1000)), own(27, put(8, -8), holds(8, -8))}
	lists := [][]impl.Txn{mixed}
	for count := range 9 {
		lists = append(lists, mixed[:count], ownTxns(20, count), mixed[count:])
	}
	return lists
}

// What was done ahead of its time is what is done for good: the same items and the same answers, at every node, and nothing is taken back; whoever is up, and in whichever turn.
func TestWhatAllHearAlikeIsGuessedRight(t *testing.T) {
	for i, list := range guessedLists() {
		for turn := 1; turn <= 4; turn++ {
			what := fmt.Sprint("list ", i, " in turn ", turn)
			order := freeOrder(turn, newBoard())
			knows := nodeBy(order, int64(turn-1), int64(turn-1))
			c, replies := heardByAll(t, what, clusterOf(order, knows, knows, knows), list)
			offered := wantOffered(t, what, c, 4)
			if len(list) == 0 {
				continue
			}
			mask := quorums[(i+turn)%4]
			end := wantEnd(t, what, offered.Cluster, mask, int64(i%2))
			for at := range int64(3) {
				wantInt(t, what+": taken back", impl.IntResult{Value: impl.AtNode(end.Cluster, at, 1).Answer}, 0)
			}
			then := wantAll(t, what, c, mask).Cluster
			for at, n := range then.Nodes {
				if !impl.SameItems(n.Replica.Now, c.Nodes[at].Replica.Now) || len(list) <= 4 && !impl.SameItems(n.Replica.Base, c.Nodes[at].Replica.Now) {
					t.Errorf("%s: node %d had %v ahead of it, and has %v for good, and %v now", what, at, c.Nodes[at].Replica.Now, n.Replica.Base, n.Replica.Now)
				}
				for j, txn := range list {
					reply := impl.FinalOf(n.Replica, txn.Session, txn.Seq)
					if j >= 4 {
						reply = impl.TentOf(n.Replica, txn.Id)
					}
					wantReply(t, fmt.Sprint(what, ": ", j, " at ", at), reply, replies[j])
				}
			}
		}
	}
}

// In two turns eight that all heard alike are done, by two candidates, as if there were one list of them.
func TestWhatAllHearAlikeInTwoTurns(t *testing.T) {
	for i, list := range guessedLists() {
		what := fmt.Sprint("list ", i)
		c, replies := heardByAll(t, what, impl.NewCluster().Cluster, list)
		then := inTurns(t, what, c, quorums[i%4], quorums[(i+1)%4])
		wantDoneOnce(t, what, then, list...)
		for at, n := range then.Nodes {
			wantSame(t, what+": the order", n.Replica.Done, list, true)
			wantItems(t, what, impl.ItemsAt(then, int64(at)), int64(len(c.Nodes[at].Replica.Now)), c.Nodes[at].Replica.Now)
			for j, txn := range list {
				wantReply(t, fmt.Sprint(what, ": ", j, " at ", at), impl.FinalOf(n.Replica, txn.Session, txn.Seq), replies[j])
			}
		}
	}
}

// What falls ahead of a drive is not lost, where another one has heard it, or it was offered.
func TestDrivesBehindFalls(t *testing.T) {
	one, other := own(20, put(1, 5)), own(21, put(2, 6))
	for fallen := range 3 {
		for _, mask := range quorums {
			what := fmt.Sprint(fallen, " falls, by ", mask)
			c := askedAt(t, what, askedAt(t, what, impl.NewCluster().Cluster, 0, one), (fallen+1)%3, other)
			if fallen == 2 {
				c = askedAt(t, what, c, 1, other)
			}
			offered := wantOffered(t, what, c, 4).Cluster
			fall := wantAsked(t, what, offered, fallen, 3).Cluster
			then := inTurns(t, what, fall, mask, mask, mask)
			wantDoneOnce(t, what, then, one, other)
			again := wantAsked(t, what, then, fallen, 3).Cluster
			wantSameClusters(t, what+": all is safe", again, then, true)
		}
	}
}

// driveMet counts what came up in the runs.
type driveMet struct {
	driven, stuck, coins, done int
}

// driven drives by a drawn quorum, behind whatever came ahead; without an end nothing turns.
func (d *drawn) driven(t *testing.T, what string, c impl.Cluster, m *driveMet) impl.Cluster {
	t.Helper()
	mask := d.from(quorums)
	wantRound(t, what, c, mask, d.from(twoCoins))
	wantEnd(t, what, c, mask, d.from(twoCoins))
	got := wantAll(t, what, c, mask)
	if got.Code != impl.OK {
		m.stuck++
		return c
	}
	m.driven++
	if got.Rounds == 2 {
		m.coins++
	}
	return got.Cluster
}

// Between votes, submits, crashes and all that may come, drives come to an end where they can, and what they come to holds.
func TestDrivesInWholeRuns(t *testing.T) {
	var m driveMet
	for seed := range 150 {
		d := drawn(seed)
		c := impl.NewCluster().Cluster
		for at := range 5 {
			what := fmt.Sprint("run ", seed, ", part ", at)
			was := c
			for range d.below(60) {
				if then := impl.DoStep(c, d.runStep(c)); then.Code == impl.OK {
					c = then.Cluster
				}
			}
			c = d.driven(t, what, c, &m)
			wantBool(t, what+": later", impl.IsLater(was, c), true)
			wantBool(t, what+": one order", impl.OneOrder(c), true)
			if then := impl.OpenNext(c); then.Code == impl.OK {
				c = then.Cluster
			}
			if t.Failed() {
				t.FailNow()
			}
		}
		m.done += int(impl.AuditCluster(c).Least)
	}
	for what, often := range map[string]int{"driven": m.driven, "stuck": m.stuck, "with a coin": m.coins, "done": m.done} {
		if often < 10 {
			t.Errorf("%s: %d alone, these runs try too little: %+v", what, often, m)
		}
	}
}

// A cluster that is only asked and driven: whatever comes at whichever node, all that the candidates had in their turns is done everywhere, and once.
func TestDrivesOfDrawnRequests(t *testing.T) {
	sum, most := 0, 0
	for seed := range 150 {
		d := drawn(seed)
		c := impl.NewCluster().Cluster
		var asked []impl.Txn
		for turn := range 4 {
			what := fmt.Sprint("run ", seed, ", turn ", turn)
			for range d.below(8) {
				txn := d.batch()[0]
				if got := impl.Submit(c, int64(d.below(3)), txn); got.Code == impl.OK {
					c, asked = got.Cluster, append(asked, txn)
				}
			}
			waiting := c.Nodes[turn%3].Replica.Tent
			waiting = waiting[:min(4, len(waiting))]
			got := wantAll(t, what, c, d.from(quorums))
			wantCode(t, what, got.Code, impl.OK)
			wantDoneOnce(t, what, got.Cluster, waiting...)
			wantAskedFor(t, what, got.Cluster, asked)
			c = got.Cluster
			if turn < 3 {
				c = wantOpened(t, what, c).Cluster
			}
			if t.Failed() {
				t.FailNow()
			}
		}
		done := len(c.Nodes[0].Replica.Done)
		sum, most = sum+done, max(most, done)
	}
	if sum < 300 || most < 6 {
		t.Errorf("%d done, %d at most, these runs try too little", sum, most)
	}
}
