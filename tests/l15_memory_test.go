package tests

import (
	"fmt"
	"slices"
	"testing"

	"loop.example/g00631/impl"
)

// Promise 1, of chapter 15.

func callsOfDrive(what string, c impl.Cluster) []call {
	calls := []call{call1("RoundsLeft "+what, impl.RoundsLeft, c)}
	for _, mask := range []int64{-1, 3, 4, 5, 6, 7, 8} {
		calls = append(calls, call2(fmt.Sprint("DriveAll ", what, " by ", mask), impl.DriveAll, c, mask))
		for coin := int64(0); coin <= 2; coin++ {
			if coin < 2 || mask == 3 {
				told := fmt.Sprint(what, " by ", mask, " and ", coin)
				calls = append(calls, call3("DriveRound "+told, impl.DriveRound, c, mask, coin), call3("DriveEnd "+told, impl.DriveEnd, c, mask, coin))
			}
		}
	}
	return calls
}

func TestDrivesLeaveAllElseAlone(t *testing.T) {
	for i, c := range manyClusters() {
		checkCalls(t, callsOfDrive(fmt.Sprint(i), c))
	}
	for i, x := range drivenBoards() {
		if i%2 == 0 {
			checkCalls(t, callsOfDrive(fmt.Sprint("board ", i), holding(freeOrder(1+i/2%4, x), 2, 1, 3)))
		}
	}
}

// Every number as a mask, as a coin, and as what a node and a board have.
func TestDrivesAnswerAtEveryNumber(t *testing.T) {
	var calls []call
	right := holding([]impl.Instance{refusedBoard(), boardBy(nil, "...", "01. ...")}, 2, 3, 1)
	right.Order[1].Has, right.Order[1].Batch = true, ownTxns(31, 1)
	for _, n := range slices.Concat(manyInts, farNumbers) {
		what := fmt.Sprint(n)
		calls = append(calls, call3("DriveRound by "+what, impl.DriveRound, right, n, 1), call3("DriveRound, coin "+what, impl.DriveRound, right, 3, n), call3("DriveRound, both "+what, impl.DriveRound, right, n, n))
		calls = append(calls, call3("DriveEnd by "+what, impl.DriveEnd, right, n, 1), call3("DriveEnd, coin "+what, impl.DriveEnd, right, 3, n), call3("DriveEnd, both "+what, impl.DriveEnd, right, n, n), call2("DriveAll by "+what, impl.DriveAll, right, n))
		board := boardBy(ownTxns(31, 1), "...", "11. 11.", "1.. ...")
		board.Rounds[0].Props[1], board.Decided[0] = n, n
		for i, wrong := range []impl.Cluster{withNode(right, 1, impl.Node{Known: n, Safe: n}), withLast(right, board), withLast(right, boardBy([]impl.Txn{named(n, n, n, n)}, "...", "... ..."))} {
			told := fmt.Sprint(what, " as ", i)
			calls = append(calls, call1("RoundsLeft "+told, impl.RoundsLeft, wrong), call3("DriveRound "+told, impl.DriveRound, wrong, 3, 1), call3("DriveEnd "+told, impl.DriveEnd, wrong, 3, 1), call2("DriveAll "+told, impl.DriveAll, wrong, 3))
		}
	}
	checkCalls(t, calls)
}

// drivenCluster has transactions and items at each node, one instance that not all know, and a free board on which one has reported; the candidate is node 1.
func drivenCluster() impl.Cluster {
	order := append(inBatches([]impl.Txn{own(1, put(1, 5)), own(2, add(1, 1))}), boardBy(nil, "...", "0.. ..."))
	return clusterOf(order, nodeBy(order, 1, 0, own(20, put(2, 7))), nodeBy(order, 0, 0, own(20, put(2, 7)), own(21, remove(1))), nodeBy(order, 1, 1, own(22, add(1, 1))))
}

// driveCalls are all that change a cluster, and what each of them has to answer at drivenCluster.
func driveCalls() (calls map[string]func(c impl.Cluster) impl.DriveResult, want map[string]impl.DriveResult) {
	calls = map[string]func(c impl.Cluster) impl.DriveResult{
		"a round": func(c impl.Cluster) impl.DriveResult {
			got := impl.DriveRound(c, 3, 0)
			return impl.DriveResult{Code: got.Code, Value: got.Answer, Cluster: got.Cluster}
		},
		"to an end": func(c impl.Cluster) impl.DriveResult { return impl.DriveEnd(c, 5, 1) },
		"all":       func(c impl.Cluster) impl.DriveResult { return impl.DriveAll(c, 3) },
		"all, done": func(c impl.Cluster) impl.DriveResult {
			decided := impl.DriveEnd(c, 3, 1).Cluster
			return impl.DriveAll(decided, 3)
		},
	}
	c := drivenCluster()
	batch := []impl.Txn{own(20, put(2, 7)), own(21, remove(1))}
	taken := []impl.Instance{c.Order[0], boardBy(batch, "11.", "01. 22.", "11. 11.", "11. ...")}
	refused := []impl.Instance{c.Order[0], boardBy(batch, "00.", "00. 00.", "00. ...")}
	want = map[string]impl.DriveResult{
		"a round":   {Value: 5, Cluster: withLast(c, boardBy(nil, "00.", "00. 00.", "00. ..."))},
		"to an end": {Rounds: 1, Cluster: withLast(c, boardBy(nil, "0.0", "0.0 0.0", "0.0 ..."))},
		"all":       {Rounds: 2, Value: 1, Cluster: clusterOf(taken, nodeBy(taken, 2, 2), nodeBy(taken, 2, 2), nodeBy(taken, 2, 2, own(22, add(1, 1))))},
		"all, done": {Cluster: clusterOf(refused, nodeBy(refused, 2, 2, batch[0]), nodeBy(refused, 2, 2, batch...), nodeBy(refused, 2, 2, own(22, add(1, 1))))},
	}
	return calls, want
}

// What is answered is the caller's own: what is written to it, or later to the argument, shows nowhere else.
func TestDrivesAreNewMemory(t *testing.T) {
	calls, want := driveCalls()
	for what, f := range calls {
		c := drivenCluster()
		first, second := f(c), f(c)
		wantDrive(t, what, first, want[what])
		checkNewMemory(t, what, first, []any{c, second})
		overwrite(first)
		wantSameClusters(t, what+": the cluster behind it", c, drivenCluster(), true)
		wantDrive(t, what+": the next answer", f(c), want[what])
		overwrite(c)
		wantDrive(t, what+": the other answer", second, want[what])
	}
}

// Where nothing is turned the lists are as they were: they are new memory all the same.
func TestDrivesThatNothingTurnsAreNewMemory(t *testing.T) {
	for i, x := range slices.Concat(decidedBoards(), []impl.Instance{boardBy(ownTxns(31, 1), "...", "010 222", "0.. ...")}) {
		order := append(fullOrder()[:2:2], x)
		c := withNode(holding(order, 1, 2, 0), 0, nodeBy(order, 2, 1, own(70, put(1, 7)), own(71, remove(2))))
		for _, mask := range quorums {
			what := fmt.Sprint("board ", i, " by ", mask)
			checkNewMemory(t, what, impl.DriveRound(c, mask, 1), []any{c})
			checkNewMemory(t, what, impl.DriveEnd(c, mask, 1), []any{c})
			checkNewMemory(t, what, impl.DriveAll(c, mask), []any{c})
		}
	}
}

// Lists that an argument has twice are told apart in the answer.
func TestSharedDrivesAreToldApart(t *testing.T) {
	acts := []impl.Act{put(1, 1)}
	shared := func(id int64) impl.Txn {
		txn := own(id)
		txn.Acts = acts
		return txn
	}
	order := append(inBatches([]impl.Txn{shared(1), shared(2)}), boardBy(nil, "...", "00. ..."))
	row := rowBy("...")
	order[1].Rounds[0].Props, order[1].Decided = row, row
	n := nodeBy(order, 1, 0, shared(20), shared(21))
	n.Replica.Done, n.Replica.Now = order[0].Batch, n.Replica.Base
	c := clusterOf(order, n, n, n)
	wantCode(t, "it is right", impl.ClusterFault(c), impl.OK)
	for _, mask := range quorums {
		round, end, all := impl.DriveRound(c, mask, 1), impl.DriveEnd(c, mask, 1), impl.DriveAll(c, mask)
		what := fmt.Sprint("by ", mask)
		for _, got := range []any{round, end, all} {
			checkNewMemory(t, what, got, []any{c, acts})
		}
		for _, then := range []impl.Cluster{round.Cluster, end.Cluster, all.Cluster} {
			wantCode(t, what, impl.ClusterFault(then), impl.OK)
		}
		wantRound(t, what, c, mask, 1)
		wantEnd(t, what, c, mask, 1)
		wantAll(t, what, c, mask)
	}
	if !slices.Equal(acts, []impl.Act{put(1, 1)}) {
		t.Errorf("the acts are %v", acts)
	}
}

// A transaction that is offered and done is its own behind that: in the batch, in what is Done at each node, and in the argument.
func TestWhatIsDrivenIsACopy(t *testing.T) {
	c := holding([]impl.Instance{newBoard()}, 3, 0, 1)
	got := impl.DriveAll(c, 6).Cluster
	overwrite(lastOf(got).Batch)
	overwrite(got.Nodes[0].Replica.Done)
	wantSame(t, "Done at 1", got.Nodes[1].Replica.Done, ownTxns(40, 3), true)
	wantSame(t, "Done at 2", got.Nodes[2].Replica.Done, ownTxns(40, 3), true)
	wantSame(t, "the Tent of the argument", c.Nodes[0].Replica.Tent, ownTxns(40, 3), true)
}

// What stands behind a length is none of it, and stays.
func TestDrivesStopAtTheLength(t *testing.T) {
	whole, four, tent := append(fullOrder()[:1:1], newBoard(), fullBoard()), make([]impl.Node, 4), ownTxns(70, 8)
	four[1], four[3] = nodeBy(whole, 0, 0, tent[:2]...), impl.Node{Known: -1}
	four[1].Replica.Tent = tent[:2]
	rounds := []impl.Round{{Reports: rowBy("..."), Props: rowBy("...")}, {Reports: rowBy("000"), Props: rowBy("000")}}
	whole[1].Rounds = rounds[:1]
	c := clusterOf(whole[:2], four[:3]...)
	got := wantAll(t, "a part of it", c, 5)
	wantSame(t, "the batch", lastOf(got.Cluster).Batch, ownTxns(70, 2), true)
	wantAudit(t, "all have all", got.Cluster, 2, 6, 6, 0)
	wantInt(t, "one round", impl.RoundsLeft(c), 4)
	wantDriveCode(t, "four nodes", impl.DriveEnd(clusterOf(whole[:2], four...), 3, 1), impl.ErrMany)
	wantRound(t, "a part of it", c, 3, 0)
	wantEnd(t, "a part of it", c, 3, 0)
	wantSame(t, "all of the Tent then", tent, ownTxns(70, 8), true)
	if four[3].Known != -1 || !slices.Equal(rounds[1].Reports, rowBy("000")) || !slices.Equal(rounds[1].Props, rowBy("000")) {
		t.Errorf("the fourth node is %+v, the second round %+v", four[3], rounds[1])
	}
	wantSameInstances(t, "the third instance", whole[2], fullBoard(), true)
}

// An empty list is nil, wherever it stands.
func TestEmptyDrivesAreNil(t *testing.T) {
	for i, c := range []impl.Cluster{impl.NewCluster().Cluster, newNodes(fullOrder()), variedCluster(), drivenCluster(), clusterOf([]impl.Instance{}, []impl.Node{}...), {}} {
		other, what := swapEmpty(c), fmt.Sprint("cluster ", i)
		if got, want := impl.RoundsLeft(other), impl.RoundsLeft(c); got != want {
			t.Errorf("%s: %v left, want %v", what, got, want)
		}
		for _, mask := range quorums {
			wantDrive(t, what, impl.DriveEnd(other, mask, 1), impl.DriveEnd(c, mask, 1))
			wantDrive(t, what+", all", impl.DriveAll(other, mask), impl.DriveAll(c, mask))
			round, want := impl.DriveRound(other, mask, 0), impl.DriveRound(c, mask, 0)
			if round.Code != want.Code || round.Answer != want.Answer || !isSameCluster(round.Cluster, want.Cluster) {
				t.Errorf("%s: got %+v, want %+v", what, round, want)
			}
		}
	}
}
