package tests

import (
	"fmt"
	"slices"
	"testing"

	"loop.example/g00631/impl"
)

// Promise 16: where a quorum is up, and hears itself, what is voted on comes to an end, at the latest with the first coin. Here: DriveEnd.

func isSameDrive(a, b impl.DriveResult) bool {
	return a.Code == b.Code && a.Rounds == b.Rounds && a.Value == b.Value && isSameCluster(a.Cluster, b.Cluster)
}

func wantDrive(t *testing.T, what string, got, want impl.DriveResult) {
	t.Helper()
	if !isSameDrive(got, want) {
		t.Errorf("%s: got %+v, want %+v", what, got, want)
	}
}

func wantDriveCode(t *testing.T, what string, got impl.DriveResult, code int64) {
	t.Helper()
	if !isSameDrive(got, impl.DriveResult{Code: code}) {
		t.Errorf("%s: got %+v, want code %d and nothing else", what, got, code)
	}
}

// outcomeByHand is what the first node that decided decided; open, where there is none.
func outcomeByHand(x impl.Instance) int64 {
	for _, value := range x.Decided {
		if value != open {
			return value
		}
	}
	return open
}

// endByText is what a DriveEnd has to answer at a right cluster, by the chapter's words.
func endByText(c impl.Cluster, mask, coin int64) impl.DriveResult {
	if first := roundByText(c, mask, coin); first.Code != impl.OK {
		return impl.DriveResult{Code: first.Code}
	}
	rounds := int64(0)
	for range 4 {
		if outcomeByHand(lastOf(c)) == open {
			c = roundByText(c, mask, coin).Cluster
			rounds++
		}
	}
	outcome := outcomeByHand(lastOf(c))
	if outcome == open {
		return impl.DriveResult{Code: impl.ErrState}
	}
	return impl.DriveResult{Rounds: rounds, Value: outcome, Cluster: c}
}

// isAllThere: all of the mask can be heard in the last round, as they reported there, or can do so yet.
func isAllThere(x impl.Instance, mask int64) bool {
	reports := x.Rounds[len(x.Rounds)-1].Reports
	for _, node := range nodesOf[mask] {
		if len(x.Rounds) > 1 && reports[node] == open {
			return false
		}
	}
	return true
}

// wantEnd asks all that is promised of a DriveEnd; c is right.
func wantEnd(t *testing.T, what string, c impl.Cluster, mask, coin int64) impl.DriveResult {
	t.Helper()
	what = fmt.Sprint(what, ", to an end by ", mask, " and ", coin)
	got := impl.DriveEnd(c, mask, coin)
	wantDrive(t, what, got, endByText(c, mask, coin))
	if t.Failed() {
		return got
	}
	if got.Code == impl.OK {
		wantEnded(t, what, c, got)
	}
	if slices.Contains(quorums, mask) && slices.Contains(twoCoins, coin) {
		wantComesToAnEnd(t, what, c, mask, coin, got)
	}
	return got
}

// wantEnded: what is answered is right, and grew from what was; it is the same that its rounds come to one by one, and nothing more is to be done.
func wantEnded(t *testing.T, what string, c impl.Cluster, got impl.DriveResult) {
	t.Helper()
	wantCode(t, what+": the cluster behind it", impl.ClusterFault(got.Cluster), impl.OK)
	wantInt(t, what+": the outcome", impl.OutcomeOf(lastOf(got.Cluster)), got.Value)
	wantStays(t, what, lastOf(c), lastOf(got.Cluster))
	wantAgreed(t, what, lastOf(got.Cluster))
	wantOthersAlone(t, what, c, got.Cluster)
	wantSafe(t, what, got.Cluster)
	wantBool(t, what+": later", impl.IsLater(c, got.Cluster), true)
	for _, mask := range quorums {
		wantDrive(t, what+", and again", impl.DriveEnd(got.Cluster, mask, 1-got.Value), impl.DriveResult{Value: got.Value, Cluster: got.Cluster})
	}
}

// wantComesToAnEnd: where all of the mask can be heard it ends, in the round that is the last one or, with a coin, in the next one, if there is room for that.
func wantComesToAnEnd(t *testing.T, what string, c impl.Cluster, mask, coin int64, got impl.DriveResult) {
	t.Helper()
	last := lastOf(c)
	switch {
	case outcomeByHand(last) != open:
		wantDrive(t, what+", decided already", got, impl.DriveResult{Value: outcomeByHand(last), Cluster: c})
	case !isAllThere(last, mask):
		wantDriveCode(t, what+", not all there", got, impl.ErrState)
	case len(last.Rounds) < 4:
		wantCode(t, what+", all there", got.Code, impl.OK)
		if got.Rounds < 1 || got.Rounds > 2 {
			t.Errorf("%s: %d rounds", what, got.Rounds)
		}
		wantCoinAtLast(t, what, last, mask, coin, got)
	}
}

// wantCoinAtLast: with a second round, all of the mask went on with one value from the first one: what one of them proposed, or the coin.
func wantCoinAtLast(t *testing.T, what string, last impl.Instance, mask, coin int64, got impl.DriveResult) {
	t.Helper()
	if got.Rounds != 2 {
		return
	}
	value := coin
	if !last.Has {
		value = 0
	}
	first := lastOf(got.Cluster).Rounds[len(last.Rounds)-1]
	for _, node := range nodesOf[mask] {
		if first.Props[node] != none {
			value = first.Props[node]
		}
	}
	if got.Value != value {
		t.Errorf("%s: %d behind %+v", what, got.Value, first)
	}
}

func TestDriveEndOfEveryCluster(t *testing.T) {
	met := map[string]int{}
	tell := func(what string, c impl.Cluster) {
		for _, mask := range quorums {
			for _, coin := range twoCoins {
				got := wantEnd(t, what, c, mask, coin)
				met[fmt.Sprint("code ", got.Code)]++
				met[fmt.Sprint("rounds ", got.Rounds, ", value ", got.Value, ", code ", got.Code)]++
			}
		}
	}
	for i, c := range drivenClusters() {
		tell(fmt.Sprint("cluster ", i), c)
	}
	overClusters(tell)
	for _, what := range []string{"code 0", "code 8", "rounds 0, value 0, code 0", "rounds 0, value 1, code 0", "rounds 1, value 0, code 0", "rounds 1, value 1, code 0", "rounds 2, value 0, code 0", "rounds 2, value 1, code 0"} {
		if met[what] < 10 {
			t.Errorf("%s: too few of %v", what, met)
		}
	}
}

// endCase is a board, who drives it by which coin, in how many rounds it ends with which value, and what the board is then.
type endCase struct {
	was                       impl.Instance
	mask, coin, rounds, value int64
	then                      impl.Instance
}

func wantEndCases(t *testing.T, cases []endCase) {
	t.Helper()
	for i, e := range cases {
		for _, c := range []impl.Cluster{newNodes([]impl.Instance{e.was}), variedClusterOf(append(fullOrder()[:3:3], e.was))} {
			what := fmt.Sprint("end ", i)
			wantDrive(t, what, impl.DriveEnd(c, e.mask, e.coin), impl.DriveResult{Rounds: e.rounds, Value: e.value, Cluster: withLast(c, e.then)})
			wantEnd(t, what, c, e.mask, e.coin)
		}
	}
}

// Where there is an outcome nothing is done, by whatever mask and coin that may be.
func TestDriveEndOfWhatIsDecided(t *testing.T) {
	var cases []endCase
	boards := append(decidedBoards(), boardBy(nil, "..0", "0.0 0.0"), boardBy(ownTxns(31, 1), ".1.", "111 111"), boardBy(ownTxns(31, 1), "00.", "010 000", "... ..."))
	for i, x := range boards {
		for _, mask := range quorums {
			value := []int64{1, 0, 0, 1, 1, 0, 0, 0, 1, 0}[i]
			cases = append(cases, endCase{x, mask, 0, 0, value, x}, endCase{x, mask, 1, 0, value, x})
		}
	}
	wantEndCases(t, cases)
}

func TestDriveEndInOneRound(t *testing.T) {
	one := ownTxns(31, 1)
	three := []string{"010 222", "010 222", "010 222"}
	var cases []endCase
	for coin := range int64(2) {
		cases = append(cases,
			endCase{newBoard(), 3, coin, 1, 0, boardBy(nil, "00.", "00. 00.", "00. ...")},
			endCase{newBoard(), 7, coin, 1, 0, boardBy(nil, "000", "000 000", "000 ...")},
			endCase{boardBy(one, "...", "... ..."), 5, coin, 1, 1, boardBy(one, "1.1", "1.1 1.1", "1.1 ...")},
			endCase{boardBy(one, "...", "... ..."), 7, coin, 1, 1, boardBy(one, "111", "111 111", "111 ...")},
			endCase{boardBy(one, "...", "0.. ..."), 7, coin, 1, 1, boardBy(one, "111", "011 111", "111 ...")},
			endCase{boardBy(one, "...", "0.0 ..."), 7, coin, 1, 0, boardBy(one, "000", "010 000", "000 ...")},
			endCase{boardBy(one, "...", "010 222", "11. ..."), 3, coin, 1, 1, boardBy(one, "11.", "010 222", "11. 11.", "11. ...")},
			endCase{boardBy(one, "...", "010 222", "010 2.."), 7, coin, 1, 0, boardBy(one, "000", "010 222", "010 200", "000 ...")},
			endCase{boardBy(one, "...", append(slices.Clone(three), "010 ...")...), 7, coin, 1, 0, boardBy(one, "000", append(slices.Clone(three), "010 000")...)},
			endCase{boardBy(one, "...", append(slices.Clone(three), "110 112")...), 3, coin, 1, 1, boardBy(one, "11.", append(slices.Clone(three), "110 112")...)},
			endCase{boardBy(nil, "...", "000 000"), 6, coin, 1, 0, boardBy(nil, ".00", "000 000", ".00 ...")})
	}
	wantEndCases(t, cases)
	c := newNodes([]impl.Instance{newBoard()})
	wantDrive(t, "a new cluster", impl.DriveEnd(impl.NewCluster().Cluster, 6, 1), impl.DriveResult{Rounds: 1, Cluster: withLast(c, boardBy(nil, ".00", ".00 .00", ".00 ..."))})
}

// The first round brings a coin, or what one alone proposed; the second one decides that.
func TestDriveEndInTwoRounds(t *testing.T) {
	one := ownTxns(31, 1)
	wantEndCases(t, []endCase{
		{boardBy(one, "...", "0.. ..."), 3, 1, 2, 1, boardBy(one, "11.", "01. 22.", "11. 11.", "11. ...")},
		{boardBy(one, "...", "0.. ..."), 3, 0, 2, 0, boardBy(one, "00.", "01. 22.", "00. 00.", "00. ...")},
		{boardBy(one, "...", "110 ..."), 6, 1, 2, 1, boardBy(one, ".11", "110 .22", ".11 .11", ".11 ...")},
		{boardBy(one, "...", "110 ..."), 6, 0, 2, 0, boardBy(one, ".00", "110 .22", ".00 .00", ".00 ...")},
		{boardBy(one, "...", "110 .22"), 7, 0, 2, 1, boardBy(one, "111", "110 122", "111 111", "111 ...")},
		{boardBy(one, "...", "001 .22"), 7, 1, 2, 0, boardBy(one, "000", "001 022", "000 000", "000 ...")},
		{boardBy(one, "...", "010 222", "010 222"), 5, 1, 2, 1, boardBy(one, "1.1", "010 222", "010 222", "1.1 1.1", "1.1 ...")},
		{boardBy(one, "...", "010 222", "010 222", "0.1 2.2"), 5, 0, 2, 0, boardBy(one, "0.0", "010 222", "010 222", "0.1 2.2", "0.0 0.0")},
		{boardBy(one, "...", "010 222", "010 222", "0.1 2.2"), 5, 1, 2, 1, boardBy(one, "1.1", "010 222", "010 222", "0.1 2.2", "1.1 1.1")},
		{boardBy(one, "...", "010 222", "011 22."), 3, 1, 2, 1, boardBy(one, "11.", "010 222", "011 22.", "11. 11.", "11. ...")},
	})
}

// Rounds is how often, not how many rounds there are, and Value is not the coin: each of them alone.
func TestDriveEndTellsRoundsAndValueAlone(t *testing.T) {
	one := ownTxns(31, 1)
	tell := func(what string, x impl.Instance, mask, coin, rounds, value int64) {
		t.Helper()
		got := impl.DriveEnd(newNodes([]impl.Instance{x}), mask, coin)
		if got.Code != impl.OK || got.Rounds != rounds || got.Value != value {
			t.Errorf("%s: got %+v, want rounds %d and value %d", what, got, rounds, value)
		}
	}
	for coin := range int64(2) {
		tell("no batch", newBoard(), 3, coin, 1, 0)
		tell("a batch", boardBy(one, "...", "... ..."), 3, coin, 1, 1)
		tell("decided 1", takenBoard(one...), 3, coin, 0, 1)
		tell("decided 0", refusedBoard(one...), 3, coin, 0, 0)
		tell("a coin", boardBy(one, "...", "01. ..."), 3, coin, 2, coin)
		tell("a coin in the third round", boardBy(one, "...", "010 222", "010 222", "01. ..."), 3, coin, 2, coin)
		tell("agreed in the last round", boardBy(one, "...", "010 222", "010 222", "010 222", "11. ..."), 3, coin, 1, 1)
		tell("agreed against it in the last round", boardBy(one, "...", "010 222", "010 222", "010 222", "00. ..."), 3, coin, 1, 0)
	}
}

// With a round in which not all of the mask reported, or with four of which the last one agrees on nothing, there is no end for that mask; another one may come to it.
func TestDriveEndWithoutAnEnd(t *testing.T) {
	one := ownTxns(31, 1)
	three := []string{"010 222", "010 222", "010 222"}
	board := func(last string) impl.Instance { return boardBy(one, "...", append(slices.Clone(three), last)...) }
	for i, e := range []struct {
		x             impl.Instance
		stuck, ending []int64
	}{
		{boardBy(one, "...", "010 222", "0.. ..."), quorums, nil},
		{boardBy(one, "...", "010 222", "... ..."), quorums, nil},
		{boardBy(nil, "...", "000 000", "... ..."), quorums, nil},
		{boardBy(one, "...", "010 222", "01. ..."), []int64{5, 6, 7}, []int64{3}},
		{boardBy(one, "...", "010 222", "0.1 2.2"), []int64{3, 6, 7}, []int64{5}},
		{boardBy(one, "...", "010 222", "010 222", ".11 .1."), []int64{3, 5, 7}, []int64{6}},
		{boardBy(one, "...", "010 222", "010 222", "1.. ..."), quorums, nil},
		{board("010 222"), quorums, nil},
		{board("110 122"), quorums, nil},
		{board("010 ..."), []int64{3, 6}, []int64{5, 7}},
		{board("110 112"), []int64{5, 6}, []int64{3, 7}},
		{board("01. ..."), quorums, nil},
		{board("11. ..."), []int64{5, 6, 7}, []int64{3}},
		{board("... ..."), quorums, nil},
	} {
		for _, c := range []impl.Cluster{newNodes([]impl.Instance{e.x}), variedClusterOf(append(fullOrder()[:2:2], e.x))} {
			for _, coin := range twoCoins {
				what := fmt.Sprint("board ", i, ", coin ", coin)
				for _, mask := range e.stuck {
					wantDriveCode(t, fmt.Sprint(what, ", mask ", mask), impl.DriveEnd(c, mask, coin), impl.ErrState)
					wantEnd(t, what, c, mask, coin)
				}
				for _, mask := range e.ending {
					wantCode(t, fmt.Sprint(what, ", mask ", mask), wantEnd(t, what, c, mask, coin).Code, impl.OK)
				}
			}
		}
	}
}

// DriveEnd does what DriveRound does, one by one, until there is an outcome, and tells ErrState where there is none by then.
func TestDriveEndIsRoundAfterRound(t *testing.T) {
	for i, was := range drivenClusters() {
		for _, mask := range quorums {
			for _, coin := range twoCoins {
				c, rounds := was, int64(0)
				for impl.OutcomeOf(lastOf(c)).Code == impl.ErrNone && rounds < 4 {
					c = impl.DriveRound(c, mask, coin).Cluster
					rounds++
				}
				what, got := fmt.Sprint("cluster ", i, " by ", mask, " and ", coin), impl.DriveEnd(was, mask, coin)
				if outcome := impl.OutcomeOf(lastOf(c)); outcome.Code == impl.OK {
					wantDrive(t, what, got, impl.DriveResult{Rounds: rounds, Value: outcome.Value, Cluster: c})
				} else {
					wantDriveCode(t, what, got, impl.ErrState)
				}
			}
		}
	}
}

// Every board of two rounds with a batch, and every one of four rounds without, whatever masks and coins they come of: each quorum that hears itself comes to an end.
func TestDriveEndOfEveryBoard(t *testing.T) {
	ends := map[string]int{}
	see := func(x impl.Instance) {
		c := newNodes([]impl.Instance{x})
		for _, mask := range quorums {
			for _, coin := range twoCoins {
				what, got := fmt.Sprintf("%+v by %d and %d", x, mask, coin), impl.DriveEnd(c, mask, coin)
				wantDrive(t, what, got, endByText(c, mask, coin))
				wantComesToAnEnd(t, what, c, mask, coin, got)
				ends[fmt.Sprint("Has ", x.Has, ", rounds ", got.Rounds, ", value ", got.Value, ", code ", got.Code)]++
			}
		}
		if t.Failed() {
			t.FailNow()
		}
	}
	two := tellOnly(boardBy(ownTxns(31, 1), "...", "... ..."), movesAmong(nodes, []int64{0, 1}, []int64{0}, quorums, twoCoins)[1:], see)
	four := tellOnly(newBoard(), movesAmong(nodes, []int64{0, 1, 2, 3}, []int64{0, 1, 2, 3}, quorums, twoCoins)[1:], see)
	if two < 8000 || four < 300 {
		t.Errorf("%d and %d boards", two, four)
	}
	for _, what := range []string{"Has false, rounds 0, value 0, code 0", "Has false, rounds 1, value 0, code 0", "Has true, rounds 0, value 0, code 0", "Has true, rounds 0, value 1, code 0",
		"Has true, rounds 0, value 0, code 8", "Has true, rounds 1, value 0, code 0", "Has true, rounds 1, value 1, code 0", "Has true, rounds 2, value 0, code 0", "Has true, rounds 2, value 1, code 0"} {
		if ends[what] < 10 {
			t.Errorf("%s: too few of %v", what, ends)
		}
	}
}

// Nobody is undone by a drive: what one node decided ahead of it is what it comes to, whoever drives.
func TestDriveEndBehindADecision(t *testing.T) {
	batch := ownTxns(31, 2)
	for _, first := range quorums {
		for value, reports := range []string{"000", "111"} {
			c := newNodes([]impl.Instance{boardBy(batch, "...", reports+" ...")})
			for _, node := range nodesOf[first] {
				c = impl.CastVote(c, proposal(0, int64(node), 0), first).Cluster
			}
			one := int64(nodesOf[first][0])
			c = impl.CastVote(c, ending(one, int64(1-value)), first).Cluster
			for _, mask := range quorums {
				what := fmt.Sprint(value, " by ", first, ", driven by ", mask)
				got := wantEnd(t, what, c, mask, int64(1-value))
				wantDrive(t, what, got, impl.DriveResult{Value: int64(value), Cluster: c})
				round := wantRound(t, what, c, mask, int64(1-value))
				wantInt(t, what+": the outcome behind a round", impl.OutcomeOf(lastOf(round.Cluster)), int64(value))
			}
		}
	}
}
