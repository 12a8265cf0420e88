package tests

import (
	"fmt"
	"slices"
	"testing"

	"loop.example/g00631/impl"
)

// Promise 16: where a quorum is up, and hears itself, what is voted on comes to an end, at the latest with the first coin. Here: one round, DriveRound, and how many are left.

// roundMoves are all that is said in a round, in order: all reports, then all proposals, then all that go on.
func roundMoves(x impl.Instance, mask, coin int64) []move {
	round, value := int64(len(x.Rounds)-1), int64(0)
	if x.Has {
		value = 1
	}
	var reports, props, ends []move
	for _, node := range nodesOf[mask] {
		m := move{node: int64(node), round: round, mask: mask}
		m.kind, m.coin = "report", value
		if round == 0 {
			reports = append(reports, m)
		}
		m.kind = "propose"
		props = append(props, m)
		m.kind, m.coin = "go on", coin
		ends = append(ends, m)
	}
	return slices.Concat(reports, props, ends)
}

// roundByText is what a DriveRound has to answer at a right cluster, by the chapter's words.
func roundByText(c impl.Cluster, mask, coin int64) impl.ClusterResult {
	if !slices.Contains(quorums, mask) {
		return impl.ClusterResult{Code: impl.ErrVote}
	}
	if !slices.Contains(twoCoins, coin) {
		return impl.ClusterResult{Code: impl.ErrRange}
	}
	x, said := lastOf(c), int64(0)
	for _, m := range roundMoves(x, mask, coin) {
		if then := m.byText(x); then.Code == impl.OK {
			x = then.Instance
			said++
		}
	}
	return impl.ClusterResult{Answer: said, Cluster: withLast(c, x)}
}

// wantRound asks all that is promised of a DriveRound; c is right.
func wantRound(t *testing.T, what string, c impl.Cluster, mask, coin int64) impl.ClusterResult {
	t.Helper()
	what = fmt.Sprint(what, ", a round by ", mask, " and ", coin)
	got := wantSaid(t, what, impl.DriveRound(c, mask, coin), roundByText(c, mask, coin))
	if got.Code != impl.OK || t.Failed() {
		return got
	}
	wantStays(t, what, lastOf(c), lastOf(got.Cluster))
	wantAgreed(t, what, lastOf(got.Cluster))
	wantBool(t, what+": nothing said, nothing turned", got.Answer > 0 || isSameCluster(got.Cluster, c), true)
	wantOthersAlone(t, what, c, got.Cluster)
	return got
}

// wantOthersAlone: a drive turns the votes of the last instance, and neither the ones ahead, nor its batch, nor a node.
func wantOthersAlone(t *testing.T, what string, c, then impl.Cluster) {
	t.Helper()
	ahead := len(c.Order) - 1
	wantSameOrders(t, what+": those ahead", c.Order[:ahead], then.Order[:ahead], true)
	wantSame(t, what+": the batch", lastOf(c).Batch, lastOf(then).Batch, true)
	for at := range c.Nodes {
		wantSameNodes(t, fmt.Sprint(what, ": the node ", at), c.Nodes[at], then.Nodes[at], true)
	}
}

// drivenBoards are last boards of all kinds, and such as a mask is in the middle of.
func drivenBoards() []impl.Instance {
	one := ownTxns(31, 1)
	boards := append(votedBoards(), drawnBoards(60)[12:]...)
	return append(boards, boardBy(one, "...", "0.. ..."), boardBy(one, "...", ".1. ..."), boardBy(one, "...", "01. ..."), boardBy(one, "...", "110 1.."), boardBy(one, "...", "001 .2."),
		boardBy(one, "...", "010 222", "00. ..."), boardBy(one, "...", "010 222", "01. 22."), boardBy(one, "...", "010 222", ".01 .22", ".11 ..."), boardBy(one, "...", "010 222", "101 2..", "... ..."),
		boardBy(one, "...", "010 222", "010 222", "010 222", "01. ..."), boardBy(one, "...", "010 222", "010 222", "010 222", "01. 22."), boardBy(one, "...", "010 222", "010 222", "010 222", "110 122"))
}

// drivenClusters have each of drivenBoards as the last one.
func drivenClusters() []impl.Cluster {
	var list []impl.Cluster
	for i, last := range drivenBoards() {
		list = append(list, newNodes([]impl.Instance{last}), variedClusterOf(append(decidedOrder(i, i%4), last)))
	}
	return list
}

func TestDriveRoundOfEveryCluster(t *testing.T) {
	met := map[string]int{}
	tell := func(what string, c impl.Cluster) {
		for _, mask := range quorums {
			for _, coin := range twoCoins {
				got := wantRound(t, what, c, mask, coin)
				met[fmt.Sprint("answer ", got.Answer)]++
				met[fmt.Sprint("round ", len(lastOf(c).Rounds), ", turned ", got.Answer > 0)]++
				met[fmt.Sprint("rounds more: ", len(lastOf(got.Cluster).Rounds)-len(lastOf(c).Rounds))]++
				met[fmt.Sprint("decided before ", impl.OutcomeOf(lastOf(c)).Code == impl.OK, ", behind ", impl.OutcomeOf(lastOf(got.Cluster)).Code == impl.OK)]++
			}
		}
	}
	for i, c := range drivenClusters() {
		tell(fmt.Sprint("cluster ", i), c)
	}
	overClusters(tell)
	for _, what := range []string{"answer 0", "answer 2", "answer 3", "answer 4", "answer 5", "answer 6", "answer 8", "answer 9", "round 1, turned true", "round 2, turned true", "round 2, turned false", "round 3, turned true", "round 3, turned false",
		"round 4, turned true", "round 4, turned false", "rounds more: 0", "rounds more: 1", "decided before false, behind false", "decided before false, behind true", "decided before true, behind true"} {
		if met[what] < 10 {
			t.Errorf("%s: too few of %v", what, met)
		}
	}
}

// roundCase is a board, who goes a round by which coin, how many of these said something, and what the board is then.
type roundCase struct {
	was        impl.Instance
	mask, coin int64
	answer     int64
	then       impl.Instance
}

func wantRoundCases(t *testing.T, cases []roundCase) {
	t.Helper()
	for i, r := range cases {
		for _, c := range []impl.Cluster{newNodes([]impl.Instance{r.was}), variedClusterOf(append(fullOrder()[:3:3], r.was))} {
			what := fmt.Sprint("round ", i)
			wantCluster(t, what, impl.DriveRound(c, r.mask, r.coin), r.answer, withLast(c, r.then))
			wantRound(t, what, c, r.mask, r.coin)
		}
	}
}

// In the first round all of the mask report by whether there is a batch, all propose it, and all decide it: three times as many as they are.
func TestDriveRoundOfNewBoards(t *testing.T) {
	batch := ownTxns(31, 2)
	var cases []roundCase
	for coin := range int64(2) {
		cases = append(cases,
			roundCase{newBoard(), 3, coin, 6, boardBy(nil, "00.", "00. 00.", "00. ...")},
			roundCase{newBoard(), 5, coin, 6, boardBy(nil, "0.0", "0.0 0.0", "0.0 ...")},
			roundCase{newBoard(), 6, coin, 6, boardBy(nil, ".00", ".00 .00", ".00 ...")},
			roundCase{newBoard(), 7, coin, 9, boardBy(nil, "000", "000 000", "000 ...")},
			roundCase{boardBy(batch, "...", "... ..."), 3, coin, 6, boardBy(batch, "11.", "11. 11.", "11. ...")},
			roundCase{boardBy(batch, "...", "... ..."), 5, coin, 6, boardBy(batch, "1.1", "1.1 1.1", "1.1 ...")},
			roundCase{boardBy(batch, "...", "... ..."), 6, coin, 6, boardBy(batch, ".11", ".11 .11", ".11 ...")},
			roundCase{boardBy(batch, "...", "... ..."), 7, coin, 9, boardBy(batch, "111", "111 111", "111 ...")})
	}
	wantRoundCases(t, cases)
	c := newNodes([]impl.Instance{newBoard()})
	wantCluster(t, "a new cluster", impl.DriveRound(impl.NewCluster().Cluster, 3, 1), 6, withLast(c, boardBy(nil, "00.", "00. 00.", "00. ...")))
}

// Who reported keeps to that: it turns nothing, and the others go on beside it.
func TestDriveRoundBehindReports(t *testing.T) {
	one := ownTxns(31, 1)
	wantRoundCases(t, []roundCase{
		{boardBy(one, "...", "1.. ..."), 3, 0, 5, boardBy(one, "11.", "11. 11.", "11. ...")},
		{boardBy(one, "...", ".1. ..."), 3, 0, 5, boardBy(one, "11.", "11. 11.", "11. ...")},
		{boardBy(one, "...", "11. ..."), 3, 0, 4, boardBy(one, "11.", "11. 11.", "11. ...")},
		{boardBy(one, "...", "00. ..."), 3, 1, 4, boardBy(one, "00.", "00. 00.", "00. ...")},
		{boardBy(nil, "...", "0.. ..."), 3, 1, 5, boardBy(nil, "00.", "00. 00.", "00. ...")},
		{boardBy(one, "...", "0.. ..."), 3, 1, 5, boardBy(one, "...", "01. 22.", "11. ...")},
		{boardBy(one, "...", "0.. ..."), 3, 0, 5, boardBy(one, "...", "01. 22.", "00. ...")},
		{boardBy(one, "...", "0.. ..."), 7, 0, 8, boardBy(one, "111", "011 111", "111 ...")},
		{boardBy(one, "...", "0.0 ..."), 7, 1, 7, boardBy(one, "000", "010 000", "000 ...")},
		{boardBy(one, "...", "110 ..."), 7, 0, 6, boardBy(one, "111", "110 111", "111 ...")},
		{boardBy(one, "...", "110 ..."), 6, 0, 4, boardBy(one, "...", "110 .22", ".00 ...")},
		{boardBy(one, "...", "0.. ..."), 6, 0, 6, boardBy(one, ".11", "011 .11", ".11 ...")},
		{boardBy(one, "...", "..0 ..."), 3, 0, 6, boardBy(one, "11.", "110 11.", "11. ...")},
	})
}

// Who proposed keeps to that, too, as its mask may have been another one.
func TestDriveRoundBehindProposals(t *testing.T) {
	one := ownTxns(31, 1)
	wantRoundCases(t, []roundCase{
		{boardBy(one, "...", "11. 1.."), 3, 0, 3, boardBy(one, "11.", "11. 11.", "11. ...")},
		{boardBy(one, "...", "11. 11."), 3, 0, 2, boardBy(one, "11.", "11. 11.", "11. ...")},
		{boardBy(one, "...", "110 ..2"), 7, 0, 5, boardBy(one, "111", "110 112", "111 ...")},
		{boardBy(one, "...", "110 .22"), 7, 0, 4, boardBy(one, "...", "110 122", "111 ...")},
		{boardBy(one, "...", "110 122"), 7, 0, 3, boardBy(one, "...", "110 122", "111 ...")},
		{boardBy(one, "...", "110 122"), 6, 0, 2, boardBy(one, "...", "110 122", ".00 ...")},
		{boardBy(one, "...", "110 122"), 6, 1, 2, boardBy(one, "...", "110 122", ".11 ...")},
		{boardBy(one, "...", "110 1.."), 6, 0, 4, boardBy(one, "...", "110 122", ".00 ...")},
		{boardBy(one, "...", "11. 11."), 7, 0, 5, boardBy(one, "111", "111 111", "111 ...")},
		{boardBy(one, "...", "11. 11."), 5, 0, 4, boardBy(one, "1.1", "111 111", "1.1 ...")},
		{boardBy(one, "...", "100 222"), 3, 1, 2, boardBy(one, "...", "100 222", "11. ...")},
		{boardBy(one, "...", "100 222"), 3, 0, 2, boardBy(one, "...", "100 222", "00. ...")},
		{boardBy(nil, "...", "000 0.."), 7, 1, 5, boardBy(nil, "000", "000 000", "000 ...")},
	})
}

// In the later rounds none reports, whoever is missing there, and whether there is a batch or none.
func TestDriveRoundOfLaterRounds(t *testing.T) {
	one := ownTxns(31, 1)
	wantRoundCases(t, []roundCase{
		{boardBy(one, "...", "010 222", "11. ..."), 3, 0, 4, boardBy(one, "11.", "010 222", "11. 11.", "11. ...")},
		{boardBy(one, "...", "010 222", "010 ..."), 3, 1, 4, boardBy(one, "...", "010 222", "010 22.", "11. ...")},
		{boardBy(one, "...", "010 222", "010 ..."), 7, 1, 6, boardBy(one, "000", "010 222", "010 000", "000 ...")},
		{boardBy(one, "...", "010 222", "010 2.."), 7, 1, 5, boardBy(one, "000", "010 222", "010 200", "000 ...")},
		{boardBy(one, "...", "010 222", "010 222"), 5, 1, 2, boardBy(one, "...", "010 222", "010 222", "1.1 ...")},
		{boardBy(one, "...", "010 222", "010 222", "0.1 2.2"), 5, 0, 2, boardBy(one, "...", "010 222", "010 222", "0.1 2.2", "0.0 ...")},
		{boardBy(one, "...", "010 222", "010 222", "0.1 ..."), 5, 0, 4, boardBy(one, "...", "010 222", "010 222", "0.1 2.2", "0.0 ...")},
		{boardBy(nil, "00.", "00. 00.", "00. ..."), 3, 1, 4, boardBy(nil, "00.", "00. 00.", "00. 00.", "00. ...")},
		{boardBy(one, "1..", "11. 11.", "11. ..."), 3, 0, 4, boardBy(one, "11.", "11. 11.", "11. 11.", "11. ...")},
	})
}

// Where not all of the mask reported in the last round, who did is not heard by the others, nor they by it: nothing turns.
func TestDriveRoundOfAMaskThatIsNotAllThere(t *testing.T) {
	one := ownTxns(31, 1)
	var cases []roundCase
	for coin := range int64(2) {
		for _, mask := range []int64{5, 6, 7} {
			for _, was := range []impl.Instance{boardBy(one, "...", "010 222", "01. ..."), boardBy(one, "...", "010 222", "01. 22."), boardBy(one, "...", "01. 22.", "01. 22."), boardBy(one, "...", "010 222", "010 222", "11. 1..")} {
				cases = append(cases, roundCase{was, mask, coin, 0, was})
			}
		}
		for _, mask := range quorums {
			for _, was := range []impl.Instance{boardBy(one, "...", "010 222", "..1 ..."), boardBy(one, "...", "101 222", "101 2..", "... ..."), boardBy(nil, "...", "000 000", "... ..."), boardBy(one, "...", "111 ...", "... ...", "... ...", "... ...")} {
				cases = append(cases, roundCase{was, mask, coin, 0, was})
			}
		}
		// The nodes 1 and 2 could still go on from the round ahead, which is not the last one.
		cases = append(cases, roundCase{boardBy(one, "...", "010 222", "0.. ..."), 6, coin, 0, boardBy(one, "...", "010 222", "0.. ...")})
	}
	wantRoundCases(t, cases)
}

// Some of the mask have proposed by others, and so can go on or propose, while the rest has nothing to say.
func TestDriveRoundOfSomeOfAMask(t *testing.T) {
	one := ownTxns(31, 1)
	wantRoundCases(t, []roundCase{
		{boardBy(one, "...", "010 222", "011 22."), 3, 1, 2, boardBy(one, "...", "010 222", "011 22.", "11. ...")},
		{boardBy(one, "...", "010 222", "011 .1."), 6, 0, 3, boardBy(one, ".11", "010 222", "011 .11", ".11 ...")},
		{boardBy(one, "...", "010 222", "011 .1."), 5, 0, 4, boardBy(one, "...", "010 222", "011 212", "0.0 ...")},
		{boardBy(one, "...", "010 222", "011 .1."), 7, 0, 5, boardBy(one, "111", "010 222", "011 111", "111 ...")},
		{boardBy(one, "...", "010 222", "011 .12"), 7, 0, 4, boardBy(one, "111", "010 222", "011 112", "111 ...")},
	})
}

// In the last round of all there is no report to come, and so who has gone on goes on again; nothing turns, where it has decided.
func TestDriveRoundOfTheLastRound(t *testing.T) {
	one := ownTxns(31, 1)
	three := []string{"010 222", "010 222", "010 222"}
	board := func(decided, last string) impl.Instance {
		return boardBy(one, decided, append(slices.Clone(three), last)...)
	}
	var cases []roundCase
	for coin := range int64(2) {
		cases = append(cases,
			roundCase{board("...", "11. ..."), 3, coin, 4, board("11.", "11. 11.")},
			roundCase{board("...", "010 ..."), 7, coin, 6, board("000", "010 000")},
			roundCase{board("...", "010 ..."), 3, coin, 4, board("...", "010 22.")},
			roundCase{board("...", "010 222"), 7, coin, 3, board("...", "010 222")},
			roundCase{board("...", "110 122"), 7, coin, 3, board("...", "110 122")},
			roundCase{board("...", "110 112"), 6, coin, 2, board("...", "110 112")},
			roundCase{board("...", "110 112"), 3, coin, 2, board("11.", "110 112")},
			roundCase{board("11.", "110 112"), 3, coin, 2, board("11.", "110 112")},
			roundCase{board("1..", "110 112"), 7, coin, 3, board("111", "110 112")},
			roundCase{board("...", "01. ..."), 5, coin, 0, board("...", "01. ...")})
	}
	wantRoundCases(t, append(cases, roundCase{boardBy(nil, "000", "000 000", "000 000", "000 000", "000 000"), 7, 1, 3, boardBy(nil, "000", "000 000", "000 000", "000 000", "000 000")}))
}

// The round is the one that was the last when it began, though the first one that goes on lets another one come: from a new board on, each round brings one more, and no more than four.
func TestDriveRoundStaysInItsRound(t *testing.T) {
	for _, batch := range [][]impl.Txn{nil, ownTxns(31, 4)} {
		for _, mask := range quorums {
			c := newNodes([]impl.Instance{boardBy(batch, "...", "... ...")})
			for at, answer := range []int64{3, 2, 2, 2, 1, 1} {
				what := fmt.Sprint("round ", at, " by ", mask)
				got := wantRound(t, what, c, mask, int64(at%2))
				if want := answer * int64(len(nodesOf[mask])); got.Answer != want || len(lastOf(got.Cluster).Rounds) != min(at+2, 4) {
					t.Errorf("%s: answer %d, want %d, and %d rounds", what, got.Answer, want, len(lastOf(got.Cluster).Rounds))
				}
				c = got.Cluster
			}
		}
	}
}

// Two masks, one behind the other: the second one speaks in the round that is the last then, which is not that of the first one.
func TestDriveRoundsOfTwoMasks(t *testing.T) {
	one := ownTxns(31, 1)
	c := newNodes([]impl.Instance{boardBy(one, "...", "01. ...")})
	first := wantRound(t, "the first one", c, 3, 1).Cluster
	wantCluster(t, "nobody of it is heard by 2", impl.DriveRound(first, 6, 1), 0, first)
	wantCluster(t, "the first one again", impl.DriveRound(first, 3, 0), 4, withLast(c, boardBy(one, "11.", "01. 22.", "11. 11.", "11. ...")))
	late := impl.CastVote(impl.CastVote(first, report(0, 2, 1), 0).Cluster, proposal(0, 2, 0), 7).Cluster
	wantCluster(t, "2 has not gone on", impl.DriveRound(late, 7, 1), 0, late)
	gone := impl.CastVote(late, ending(2, 0), 3).Cluster
	wantCluster(t, "2 has gone on, by its own coin", impl.DriveRound(gone, 6, 1), 4, withLast(c, boardBy(one, "...", "011 221", "110 .22", ".11 ...")))
	wantCluster(t, "all three", impl.DriveRound(gone, 7, 0), 6, withLast(c, boardBy(one, "111", "011 221", "110 111", "111 ...")))
}

// A mask that is no quorum is told ahead of a coin that is none.
func TestDriveCodes(t *testing.T) {
	masks := slices.Concat([]int64{-1, 0, 1, 2, 3, 4, 5, 6, 7, 8}, wrongMasks, farNumbers)
	coins := slices.Concat([]int64{-1, 0, 1, 2}, wrongCoins, farNumbers)
	met := map[int64]int{}
	for _, c := range []impl.Cluster{impl.NewCluster().Cluster, variedCluster(), newNodes(fullOrder()), variedClusterOf([]impl.Instance{openBoard(ownTxns(31, 3)...)}), newNodes([]impl.Instance{boardBy(ownTxns(31, 1), "...", "010 222", "0.. ...")})} {
		for _, mask := range masks {
			for _, coin := range coins {
				what := fmt.Sprint("mask ", mask, ", coin ", coin)
				round, end := wantRound(t, what, c, mask, coin), wantEnd(t, what, c, mask, coin)
				if end.Code != impl.ErrState {
					wantCode(t, what, end.Code, round.Code)
				}
				met[round.Code]++
			}
			if !slices.Contains(quorums, mask) {
				wantDriveCode(t, fmt.Sprint("all, mask ", mask), impl.DriveAll(c, mask), impl.ErrVote)
			}
		}
	}
	if met[impl.OK] == 0 || met[impl.ErrVote] < 50 || met[impl.ErrRange] < 50 || len(met) != 3 {
		t.Errorf("too few of %v", met)
	}
}

// A fault of the cluster is told ahead of a mask that is no quorum, of a coin that is none, and of both.
func TestDrivesTellTheClusterFaultFirst(t *testing.T) {
	masks, coins := slices.Concat([]int64{3, 0, 7, -1, 1, 6, 8, 5}, farNumbers), slices.Concat([]int64{1, 2, 0, -1}, farNumbers)
	want := func(what string, c impl.Cluster, mask, coin, code int64) {
		what = fmt.Sprint(what, ", mask ", mask, ", coin ", coin)
		wantClusterCode(t, what, impl.DriveRound(c, mask, coin), code)
		wantDriveCode(t, what, impl.DriveEnd(c, mask, coin), code)
		wantDriveCode(t, what+", all", impl.DriveAll(c, mask), code)
		wantIntCode(t, what, impl.RoundsLeft(c), code)
	}
	met := map[int64]int{}
	for i, c := range allClusterCases() {
		want(c.what, c.c, masks[i%len(masks)], coins[i/3%len(coins)], c.code)
		met[c.code]++
	}
	order := fullOrder()
	for _, mask := range masks {
		for _, coin := range coins {
			want("nothing", impl.Cluster{}, mask, coin, impl.ErrMany)
			want("no nodes", clusterOf(order), mask, coin, impl.ErrMany)
			want("a node that knows too much", withNode(newNodes(order), 2, impl.Node{Known: 5}), mask, coin, impl.ErrRange)
			want("a board that may not be", newNodes([]impl.Instance{boardBy(nil, "...", "1.. ...")}), mask, coin, impl.ErrVote)
			want("two open boards", newNodes([]impl.Instance{newBoard(), newBoard()}), mask, coin, impl.ErrState)
		}
	}
	for _, code := range []int64{impl.ErrForm, impl.ErrMany, impl.ErrRange, impl.ErrTaken, impl.ErrState, impl.ErrVote} {
		if met[code] < 10 {
			t.Errorf("code %d: too few of %v", code, met)
		}
	}
}

// The first round counts as one that is left: there are four of a new board, and one of a board with all.
func TestRoundsLeft(t *testing.T) {
	wantInt(t, "a new cluster", impl.RoundsLeft(impl.NewCluster().Cluster), 4)
	left, met := []int64{4, 3, 2, 1}, map[int64]int{}
	tell := func(what string, c impl.Cluster) {
		want := left[len(lastOf(c).Rounds)-1]
		wantInt(t, what, impl.RoundsLeft(c), want)
		met[want]++
	}
	for i, c := range drivenClusters() {
		tell(fmt.Sprint("cluster ", i), c)
	}
	overClusters(tell)
	for _, want := range left {
		if met[want] < 20 {
			t.Errorf("%d left: too few of %v", want, met)
		}
	}
	rounds := []string{"010 222", "010 222", "010 222", "010 ..."}
	for count, want := range left {
		last := boardBy(ownTxns(31, 1), "...", rounds[:count+1]...)
		for ahead := range 4 {
			wantInt(t, fmt.Sprint(count+1, " rounds behind ", ahead), impl.RoundsLeft(variedClusterOf(append(fullOrder()[:ahead:ahead], last))), want)
		}
	}
	wantInt(t, "a new one behind a full one", impl.RoundsLeft(newNodes([]impl.Instance{fullBoard(), newBoard()})), 4)
	wantInt(t, "a full one behind a new one", impl.RoundsLeft(newNodes([]impl.Instance{refusedBoard(), fullBoard()})), 1)
}
