package tests

import (
	"fmt"
	"math"
	"slices"
	"testing"

	"loop.example/g00631/impl"
)

// Promise 13, of CastVote: a report, a proposal or an end, said at the last instance; what is said comes of the mask.

// lastRoundOf is the last round in which node proposed, or -1.
func lastRoundOf(x impl.Instance, node int64) int64 {
	last := int64(-1)
	for at, round := range x.Rounds {
		if round.Props[node] != open {
			last = int64(at)
		}
	}
	return last
}

// castByText is what a CastVote has to answer at a right cluster, by the chapter's words.
func castByText(c impl.Cluster, v impl.Vote, mask int64) impl.ClusterResult {
	if code := voteFaultByList(v); code != impl.OK {
		return impl.ClusterResult{Code: code}
	}
	m, last := move{node: v.Node, round: v.Round, mask: mask, coin: v.Value}, lastOf(c)
	switch v.Kind {
	case impl.VoteReport:
		m.kind = "report"
		if v.Round != 0 {
			return impl.ClusterResult{Code: impl.ErrForm}
		}
	case impl.VoteProp:
		m.kind = "propose"
	case impl.VoteEnd:
		m.kind, m.round = "go on", lastRoundOf(last, v.Node)
		if m.round < 0 {
			return impl.ClusterResult{Code: impl.ErrNone}
		}
	}
	then := m.byText(last)
	if then.Code != impl.OK {
		return impl.ClusterResult{Code: then.Code}
	}
	answer := then.Choice.Value
	if v.Kind == impl.VoteProp {
		answer = then.Instance.Rounds[v.Round].Props[v.Node]
	}
	return impl.ClusterResult{Answer: answer, Cluster: withLast(c, then.Instance)}
}

// wantCast asks all that is promised of a CastVote; c is right.
func wantCast(t *testing.T, what string, c impl.Cluster, v impl.Vote, mask int64) impl.ClusterResult {
	t.Helper()
	what = fmt.Sprintf("%s, %+v by %d", what, v, mask)
	got := wantSaid(t, what, impl.CastVote(c, v, mask), castByText(c, v, mask))
	if got.Code != impl.OK || t.Failed() {
		return got
	}
	wantStays(t, what, lastOf(c), lastOf(got.Cluster))
	wantAgreed(t, what, lastOf(got.Cluster))
	wantSameOrders(t, what+": those ahead", got.Cluster.Order[:len(c.Order)-1], c.Order[:len(c.Order)-1], true)
	if v.Kind == impl.VoteReport && got.Answer != 0 {
		t.Errorf("%s: a report answers %d", what, got.Answer)
	}
	return got
}

// votedBoards are last boards of all kinds.
func votedBoards() []impl.Instance {
	one := ownTxns(31, 1)
	boards := slices.Concat(openBoards(), decidedBoards(), rightBoards(), drawnBoards(12))
	return append(boards, boardBy(one, "...", "101 ..."), boardBy(one, "...", "101 2.."), boardBy(one, "...", "101 212", "1.1 ..."), boardBy(one, "...", "101 212", "101 2.."), boardBy(one, "...", "110 22.", "01. ..."),
		boardBy(one, "...", "010 222", "010 222", "010 222", "010 222"), boardBy(one, "...", "010 222", "010 222", "010 222", "011 122"), boardBy(one, "...", "010 222", "010 222", "010 222", "111 111"))
}

// votedClusters have each of votedBoards as the last one, behind none and behind some, with nodes that know what there is to know.
func votedClusters() []impl.Cluster {
	var list []impl.Cluster
	for i, last := range votedBoards() {
		order := append(decidedOrder(i, i%4), last)
		list = append(list, newNodes([]impl.Instance{last}), variedClusterOf(order))
	}
	return list
}

// Every vote that there is, by every mask and by some that are none, on boards of all kinds.
func TestCastVoteOfEveryVote(t *testing.T) {
	met := map[string]int{}
	for i, c := range votedClusters() {
		for _, v := range rightVotes() {
			if i%2 == 1 && v.Node != int64(i/2%3) {
				continue
			}
			for mask := int64(-1); mask <= 8; mask++ {
				got := wantCast(t, fmt.Sprint("cluster ", i), c, v, mask)
				met[fmt.Sprint(v.Kind, " code ", got.Code)]++
				met[fmt.Sprint(v.Kind, " answer ", got.Answer)]++
			}
		}
	}
	for _, what := range []string{"1 code 0", "1 code 1", "1 code 6", "1 code 10", "2 code 0", "2 code 3", "2 code 6", "2 code 8", "2 code 10", "2 answer 0", "2 answer 1", "2 answer 2", "3 code 0", "3 code 4", "3 code 6", "3 code 10", "3 answer 0", "3 answer 1"} {
		if met[what] < 10 {
			t.Errorf("%s: too few of %v", what, met)
		}
	}
}

// The VoteFault is told ahead of all that hangs on the board.
func TestCastVoteOfFaultyVotes(t *testing.T) {
	boards := []impl.Instance{newBoard(), fullBoard(), openBoard(ownTxns(31, 3)...), takenBoard(ownTxns(31, 1)...)}
	for i, v := range nearVotes() {
		if code := voteFaultByList(v); code != impl.OK {
			c := newNodes([]impl.Instance{boards[i%len(boards)]})
			wantClusterCode(t, fmt.Sprintf("%+v", v), impl.CastVote(c, v, int64(i%9)), code)
		}
	}
	codes := map[int64]int{}
	for _, named := range voteNamedCases() {
		for _, c := range []impl.Cluster{impl.NewCluster().Cluster, variedCluster(), newNodes([]impl.Instance{fullBoard()})} {
			for _, mask := range []int64{-1, 0, 3, 7, 8, math.MaxInt64} {
				codes[wantCast(t, named.what, c, named.vote, mask).Code]++
			}
		}
	}
	wantClusterCode(t, "a report of another round, with a fault beside it", impl.CastVote(impl.NewCluster().Cluster, report(1, 3, 0), 0), impl.ErrRange)
	wantClusterCode(t, "a report of another round, with a Value beside it", impl.CastVote(impl.NewCluster().Cluster, report(1, 0, none), 0), impl.ErrRange)
	wantClusterCode(t, "a report of no round", impl.CastVote(impl.NewCluster().Cluster, report(4, 0, 0), 0), impl.ErrRange)
	if codes[impl.ErrForm] < 20 || codes[impl.ErrRange] < 20 {
		t.Errorf("too few of %v", codes)
	}
}

// A node that is none is told by the VoteFault, in its order: ahead of it stand the forms.
func TestCastVoteByNoNode(t *testing.T) {
	c := newNodes([]impl.Instance{boardBy(ownTxns(31, 1), "...", "111 111")})
	for _, node := range slices.Concat([]int64{-1, 3}, wrongNodes, farNumbers) {
		what := fmt.Sprint("node ", node)
		wantClusterCode(t, what+" reports", impl.CastVote(c, report(0, node, 0), 7), impl.ErrRange)
		wantClusterCode(t, what+" reports in another round", impl.CastVote(c, report(2, node, 0), 7), impl.ErrRange)
		wantClusterCode(t, what+" proposes", impl.CastVote(c, proposal(0, node, 0), 7), impl.ErrRange)
		wantClusterCode(t, what+" ends", impl.CastVote(c, ending(node, 0), 7), impl.ErrRange)
		wantClusterCode(t, what+" ends in a round", impl.CastVote(c, impl.Vote{Kind: 3, Round: 1, Node: node}, 7), impl.ErrForm)
		wantClusterCode(t, what+" says nothing", impl.CastVote(c, impl.Vote{Node: node}, 7), impl.ErrForm)
	}
}

func TestReportByHand(t *testing.T) {
	one := ownTxns(31, 1)
	free, offered := impl.NewCluster().Cluster, newNodes([]impl.Instance{boardBy(one, "...", "... ...")})
	rows := []string{"%s..", ".%s.", "..%s"}
	for node, row := range rows {
		zero, first := fmt.Sprintf(row, "0"), fmt.Sprintf(row, "1")
		for _, mask := range []int64{0, 7, -1, 8, math.MinInt64, math.MaxInt64} {
			what := fmt.Sprint("node ", node, " by ", mask)
			wantCluster(t, what+", 0", impl.CastVote(free, report(0, int64(node), 0), mask), 0, withLast(free, boardBy(nil, "...", zero+" ...")))
			wantClusterCode(t, what+", 1 of no batch", impl.CastVote(free, report(0, int64(node), 1), mask), impl.ErrVote)
			wantCluster(t, what+", 0 of a batch", impl.CastVote(offered, report(0, int64(node), 0), mask), 0, withLast(offered, boardBy(one, "...", zero+" ...")))
			said := impl.CastVote(offered, report(0, int64(node), 1), mask)
			wantCluster(t, what+", 1", said, 0, withLast(offered, boardBy(one, "...", first+" ...")))
			for value := range int64(2) {
				wantClusterCode(t, what+", again", impl.CastVote(said.Cluster, report(0, int64(node), value), mask), impl.ErrTaken)
			}
			for round := int64(1); round <= 3; round++ {
				wantClusterCode(t, fmt.Sprint(what, ", round ", round), impl.CastVote(offered, report(round, int64(node), 0), mask), impl.ErrForm)
				wantClusterCode(t, fmt.Sprint(what, ", round ", round, ", of no batch"), impl.CastVote(free, report(round, int64(node), 1), mask), impl.ErrForm)
				wantClusterCode(t, fmt.Sprint(what, ", round ", round, ", reported"), impl.CastVote(said.Cluster, report(round, int64(node), 0), mask), impl.ErrForm)
			}
		}
	}
	going := newNodes([]impl.Instance{boardBy(one, "...", "10. 22.")})
	wantClusterCode(t, "a report of a round that might come", impl.CastVote(going, report(1, 0, 1), 3), impl.ErrForm)
}

// What is proposed comes of the mask, not of the Value of the vote.
func TestProposalByHand(t *testing.T) {
	one := ownTxns(31, 1)
	c := newNodes([]impl.Instance{takenBoard(ownTxns(1, 2)...), boardBy(one, "...", "110 ...")})
	for value := range int64(3) {
		wantCluster(t, "all of it", impl.CastVote(c, proposal(0, 0, value), 7), 1, withLast(c, boardBy(one, "...", "110 1..")))
		wantCluster(t, "two who agree", impl.CastVote(c, proposal(0, 2, value), 3), 1, withLast(c, boardBy(one, "...", "110 ..1")))
		wantCluster(t, "two who do not", impl.CastVote(c, proposal(0, 1, value), 6), none, withLast(c, boardBy(one, "...", "110 .2.")))
		for _, mask := range []int64{0, 1, 2, 4, -1, 8, 15, math.MinInt64, math.MaxInt64} {
			wantClusterCode(t, fmt.Sprint("mask ", mask), impl.CastVote(c, proposal(0, 0, value), mask), impl.ErrVote)
		}
		for round := int64(1); round <= 3; round++ {
			wantClusterCode(t, fmt.Sprint("round ", round, " is not there"), impl.CastVote(c, proposal(round, 0, value), 7), impl.ErrRange)
		}
	}
	some := newNodes([]impl.Instance{boardBy(one, "...", "1.0 2..")})
	wantClusterCode(t, "one that has not reported is heard", impl.CastVote(some, proposal(0, 2, 0), 7), impl.ErrVote)
	wantClusterCode(t, "one that has not reported", impl.CastVote(some, proposal(0, 1, 0), 5), impl.ErrState)
	wantClusterCode(t, "one that has not reported, by no mask", impl.CastVote(some, proposal(0, 1, 0), -1), impl.ErrState)
	wantClusterCode(t, "one that proposed", impl.CastVote(some, proposal(0, 0, 0), 5), impl.ErrTaken)
	wantClusterCode(t, "one that proposed, by no mask", impl.CastVote(some, proposal(0, 0, 0), 0), impl.ErrTaken)
	wantCluster(t, "none agree", impl.CastVote(some, proposal(0, 2, 1), 5), none, withLast(some, boardBy(one, "...", "1.0 2.2")))
	next := newNodes([]impl.Instance{boardBy(one, "...", "1.0 2.2", "1.. ...")})
	wantClusterCode(t, "the next round, not reported", impl.CastVote(next, proposal(1, 2, 0), 5), impl.ErrState)
	wantClusterCode(t, "the next round, too few", impl.CastVote(next, proposal(1, 0, 0), 5), impl.ErrVote)
	later := newNodes([]impl.Instance{boardBy(one, "...", "101 222", "111 ...")})
	wantCluster(t, "the second round", impl.CastVote(later, proposal(1, 2, 0), 6), 1, withLast(later, boardBy(one, "...", "101 222", "111 ..1")))
	zero := newNodes([]impl.Instance{boardBy(nil, "...", "00. ...")})
	wantCluster(t, "0 without a batch", impl.CastVote(zero, proposal(0, 1, 1), 3), 0, withLast(zero, boardBy(nil, "...", "00. .0.")))
}

func TestEndByHand(t *testing.T) {
	one := ownTxns(31, 1)
	agreed := newNodes([]impl.Instance{refusedBoard(), boardBy(one, "...", "11. 11.")})
	for coin := range int64(2) {
		wantCluster(t, "decided", impl.CastVote(agreed, ending(1, coin), 3), 1, withLast(agreed, boardBy(one, ".1.", "11. 11.", ".1. ...")))
		wantClusterCode(t, "never proposed", impl.CastVote(agreed, ending(2, coin), 3), impl.ErrNone)
		wantClusterCode(t, "never proposed, by no mask", impl.CastVote(agreed, ending(2, coin), -1), impl.ErrNone)
		for _, mask := range []int64{0, 1, 2, 4, 5, 6, 7, -1, 8, math.MinInt64, math.MaxInt64} {
			wantClusterCode(t, fmt.Sprint("mask ", mask, " was not heard"), impl.CastVote(agreed, ending(0, coin), mask), impl.ErrVote)
		}
		split := newNodes([]impl.Instance{boardBy(one, "...", "110 122")})
		wantCluster(t, "one proposed it", impl.CastVote(split, ending(2, coin), 5), 1, withLast(split, boardBy(one, "...", "110 122", "..1 ...")))
		coinRow := fmt.Sprint("..", coin, " ...")
		wantCluster(t, "a coin", impl.CastVote(split, ending(2, coin), 6), coin, withLast(split, boardBy(one, "...", "110 122", coinRow)))
		gone := newNodes([]impl.Instance{boardBy(one, ".1.", "11. 11.", ".1. ...")})
		wantClusterCode(t, "gone on already", impl.CastVote(gone, ending(1, coin), 3), impl.ErrTaken)
		wantClusterCode(t, "gone on already, by no mask", impl.CastVote(gone, ending(1, coin), 0), impl.ErrVote)
		empty := newNodes([]impl.Instance{boardBy(nil, "...", "000 000")})
		wantCluster(t, "decided without a batch", impl.CastVote(empty, ending(0, coin), 6), 0, withLast(empty, boardBy(nil, "0..", "000 000", "0.. ...")))
	}
	wantClusterCode(t, "a new cluster", impl.CastVote(impl.NewCluster().Cluster, ending(0, 0), 7), impl.ErrNone)
	reported := newNodes([]impl.Instance{boardBy(one, "...", "111 .11")})
	wantClusterCode(t, "reported, and not proposed", impl.CastVote(reported, ending(0, 0), 6), impl.ErrNone)
}

// The last round in which one proposed counts, and neither an earlier one nor the last one that there is.
func TestEndGoesOnFromTheLastProposal(t *testing.T) {
	one := ownTxns(31, 1)
	several := newNodes([]impl.Instance{boardBy(one, "...", "110 122", "101 12.")})
	wantCluster(t, "of two rounds the second one", impl.CastVote(several, ending(0, 0), 3), 1, withLast(several, boardBy(one, "...", "110 122", "101 12.", "1.. ...")))
	wantCluster(t, "by one who proposed none there", impl.CastVote(several, ending(1, 0), 3), 1, withLast(several, boardBy(one, "...", "110 122", "101 12.", ".1. ...")))
	wantClusterCode(t, "one who proposed in the first one alone, and went on", impl.CastVote(several, ending(2, 0), 7), impl.ErrTaken)
	wantClusterCode(t, "the last round was not heard", impl.CastVote(several, ending(0, 0), 7), impl.ErrVote)
	ahead := newNodes([]impl.Instance{boardBy(one, "...", "101 222", "1.0 2.2", "... ...")})
	wantCluster(t, "behind the others, from its own round", impl.CastVote(ahead, ending(1, 1), 7), 1, withLast(ahead, boardBy(one, "...", "101 222", "110 2.2", "... ...")))
	wantCluster(t, "by a coin of 0", impl.CastVote(ahead, ending(1, 0), 7), 0, withLast(ahead, boardBy(one, "...", "101 222", "100 2.2", "... ...")))
	wantCluster(t, "into a round that is there", impl.CastVote(ahead, ending(2, 1), 5), 1, withLast(ahead, boardBy(one, "...", "101 222", "1.0 2.2", "..1 ...")))
	last := newNodes([]impl.Instance{boardBy(one, "...", "010 222", "010 222", "010 222", "110 112")})
	decided := impl.CastVote(last, ending(0, 0), 3)
	wantCluster(t, "the last round of all", decided, 1, withLast(last, boardBy(one, "1..", "010 222", "010 222", "010 222", "110 112")))
	wantCluster(t, "and once more, as no report comes behind it", impl.CastVote(decided.Cluster, ending(0, 1), 5), 1, decided.Cluster)
	wantCluster(t, "undecided there", impl.CastVote(last, ending(2, 0), 6), 1, last)
	coins := newNodes([]impl.Instance{boardBy(one, "...", "010 222", "010 222", "010 222", "010 222")})
	for coin := range int64(2) {
		wantCluster(t, "a coin there", impl.CastVote(coins, ending(1, coin), 6), coin, coins)
	}
}

// Without a batch nobody comes to 1, whatever the coin is.
func TestEndWithoutABatch(t *testing.T) {
	for i, x := range append(freeBoards(), drawnBoards(40)...) {
		if x.Has {
			continue
		}
		for node := range int64(3) {
			for mask := range int64(8) {
				got := wantCast(t, fmt.Sprint("board ", i), newNodes([]impl.Instance{x}), ending(node, 1), mask)
				if got.Code == impl.OK && got.Answer != 0 {
					t.Errorf("board %d: %+v answers %d", i, x, got.Answer)
				}
			}
		}
	}
}

// Only the last instance turns, and nodes that know it already are right behind it.
func TestVotesBehindTheEnd(t *testing.T) {
	batch := ownTxns(31, 2)
	for count := range 4 {
		order := append(fullOrder()[:count:count], boardBy(batch, "1..", "110 112", "1.. ..."))
		decided := int64(count + 1)
		c := clusterOf(order, nodeBy(order, decided, decided), nodeBy(order, decided, 0, ownTxns(70, 2)...), nodeBy(order, int64(count), 0, batch...))
		for _, v := range rightVotes() {
			for mask := range int64(8) {
				got := wantCast(t, fmt.Sprint(count, " ahead"), c, v, mask)
				if got.Code == impl.OK {
					wantTxns(t, "the order behind it", impl.DefiniteOf(got.Cluster.Order, decided), definiteByPairs(order, decided)...)
				}
			}
		}
	}
}
