package tests

import (
	"fmt"
	"math"
	"reflect"
	"slices"
	"testing"

	"loop.example/g00631/impl"
)

// Promise 7, step by step: what SetBatch, FirstReport, Propose, GoOn and OutcomeOf make of a board, and their codes.

var wrongNodes = []int64{-1, 3, 4, 256, 1 << 32, math.MinInt64, math.MaxInt64}

func isSameBoard(a, b impl.Instance) bool {
	sameRound := func(a, b impl.Round) bool {
		return slices.Equal(a.Reports, b.Reports) && slices.Equal(a.Props, b.Props)
	}
	sameBatch := len(a.Batch) == 0 && len(b.Batch) == 0 || reflect.DeepEqual(a.Batch, b.Batch)
	return a.Has == b.Has && sameBatch && slices.EqualFunc(a.Rounds, b.Rounds, sameRound) && slices.Equal(a.Decided, b.Decided)
}

func wantResult(t *testing.T, what string, got, want impl.InstanceResult) {
	t.Helper()
	if got.Code != want.Code || got.Choice != want.Choice || !isSameBoard(got.Instance, want.Instance) {
		t.Errorf("%s: got %+v, want %+v", what, got, want)
	}
}

func wantBoard(t *testing.T, what string, got impl.InstanceResult, want impl.Instance) {
	t.Helper()
	wantResult(t, what, got, impl.InstanceResult{Instance: want})
}

func wantBoardCode(t *testing.T, what string, got impl.InstanceResult, code int64) {
	t.Helper()
	wantResult(t, what, got, impl.InstanceResult{Code: code})
}

// gone is what GoOn answers.
func gone(isDecided, isCoin bool, value int64, x impl.Instance) impl.InstanceResult {
	return impl.InstanceResult{Choice: impl.Choice{Decided: isDecided, Coin: isCoin, Value: value}, Instance: x}
}

func TestSetBatch(t *testing.T) {
	for count := 1; count <= 4; count++ {
		wantBoard(t, fmt.Sprint(count, " in a new one"), impl.SetBatch(newBoard(), someTxns(count)), boardBy(someTxns(count), "...", "... ..."))
	}
	batch := []impl.Txn{someTxn(200), txnOf(1, 9, 99, remove(1))}
	wantBoard(t, "behind votes", impl.SetBatch(boardBy(nil, "0..", "00. 00.", "0.. ..."), batch), boardBy(batch, "0..", "00. 00.", "0.. ..."))
	wantBoard(t, "one Session and Seq, other Ids", impl.SetBatch(newBoard(), someTxns(2)), boardBy(someTxns(2), "...", "... ..."))
}

func TestSetBatchCodes(t *testing.T) {
	for _, count := range []int{0, 5, 6, 60, 61, 256 + 1} {
		wantBoardCode(t, fmt.Sprint(count), impl.SetBatch(newBoard(), someTxns(count)), impl.ErrMany)
		wantBoardCode(t, fmt.Sprint(count, " faulty ones"), impl.SetBatch(newBoard(), slices.Repeat([]impl.Txn{{}}, count)), impl.ErrMany)
	}
	wantBoardCode(t, "an empty one", impl.SetBatch(newBoard(), []impl.Txn{}), impl.ErrMany)
	for _, c := range batchTxnCases() {
		if c.code == impl.OK {
			wantBoard(t, c.what, impl.SetBatch(newBoard(), c.x.Batch), boardBy(c.x.Batch, "...", "... ..."))
			continue
		}
		wantBoardCode(t, c.what, impl.SetBatch(newBoard(), c.x.Batch), c.code)
	}
	for i, batch := range [][]impl.Txn{nil, someTxns(1), someTxns(4), someTxns(5), {{}}, {someTxn(1), someTxn(1)}} {
		wantBoardCode(t, fmt.Sprint("taken, batch ", i), impl.SetBatch(fullBoard(), batch), impl.ErrTaken)
	}
	noActs, noId, twice := txnOf(1, 1, 1), txnOf(0, 1, 1, put(1, 1)), someTxn(7)
	wantBoardCode(t, "two faults", impl.SetBatch(newBoard(), []impl.Txn{twice, noActs, noId, twice}), impl.ErrMany)
	wantBoardCode(t, "the other way round", impl.SetBatch(newBoard(), []impl.Txn{twice, twice, noId, noActs}), impl.ErrRange)
	wantBoardCode(t, "an Id twice", impl.SetBatch(newBoard(), []impl.Txn{twice, someTxn(6), twice}), impl.ErrTaken)
}

func TestFirstReport(t *testing.T) {
	one := someTxns(1)
	wantBoard(t, "0 without a batch", impl.FirstReport(newBoard(), 0, 0), boardBy(nil, "...", "0.. ..."))
	wantBoard(t, "0 by the last one", impl.FirstReport(newBoard(), 2, 0), boardBy(nil, "...", "..0 ..."))
	wantBoard(t, "1", impl.FirstReport(boardBy(one, "...", "... ..."), 1, 1), boardBy(one, "...", ".1. ..."))
	wantBoard(t, "behind others", impl.FirstReport(boardBy(one, "1..", "11. 11.", "1.. ..."), 2, 0), boardBy(one, "1..", "110 11.", "1.. ..."))
	wantBoardCode(t, "1 without a batch", impl.FirstReport(newBoard(), 0, 1), impl.ErrVote)
	wantBoardCode(t, "again", impl.FirstReport(boardBy(one, "...", "1.. ..."), 0, 1), impl.ErrTaken)
	wantBoardCode(t, "otherwise", impl.FirstReport(boardBy(one, "...", "1.. ..."), 0, 0), impl.ErrTaken)
}

// Where several codes are so, the first one is told.
func TestFirstReportOrderOfCodes(t *testing.T) {
	for _, x := range []impl.Instance{newBoard(), boardBy(nil, "...", "000 ..."), fullBoard()} {
		for _, node := range wrongNodes {
			for _, value := range append(wrongCoins, 0, 1) {
				wantBoardCode(t, fmt.Sprint("node ", node, ", value ", value), impl.FirstReport(x, node, value), impl.ErrRange)
			}
		}
		for node := range int64(3) {
			for _, value := range wrongCoins {
				wantBoardCode(t, fmt.Sprint("node ", node, ", value ", value), impl.FirstReport(x, node, value), impl.ErrRange)
			}
		}
	}
	wantBoardCode(t, "reported, and 1 without a batch", impl.FirstReport(boardBy(nil, "...", "0.. ..."), 0, 1), impl.ErrTaken)
}

func TestPropose(t *testing.T) {
	one := someTxns(1)
	wantBoard(t, "1 by a quorum", impl.Propose(boardBy(one, "...", "110 ..."), 0, 0, 3), boardBy(one, "...", "110 1.."))
	wantBoard(t, "none", impl.Propose(boardBy(one, "...", "110 ..."), 0, 0, 6), boardBy(one, "...", "110 2.."))
	wantBoard(t, "by others", impl.Propose(boardBy(one, "...", "110 ..."), 2, 0, 3), boardBy(one, "...", "110 ..1"))
	wantBoard(t, "0 without a batch", impl.Propose(boardBy(nil, "...", "00. ..."), 1, 0, 3), boardBy(nil, "...", "00. .0."))
	wantBoard(t, "in the next round", impl.Propose(boardBy(one, "...", "01. 22.", "11. ..."), 1, 1, 3), boardBy(one, "...", "01. 22.", "11. .1."))
	wantBoard(t, "in the first of two", impl.Propose(boardBy(one, "...", "010 22.", "11. ..."), 2, 0, 7), boardBy(one, "...", "010 220", "11. ..."))
	wantBoard(t, "in the last one", impl.Propose(boardBy(one, "...", "01. 22.", "01. 22.", "01. 22.", "00. 0.."), 1, 3, 3),
		boardBy(one, "...", "01. 22.", "01. 22.", "01. 22.", "00. 00."))
	wantBoardCode(t, "again", impl.Propose(boardBy(one, "...", "110 1.."), 0, 0, 3), impl.ErrTaken)
	wantBoardCode(t, "without a report", impl.Propose(boardBy(one, "...", "11. ..."), 2, 0, 3), impl.ErrState)
	wantBoardCode(t, "one alone is not heard", impl.Propose(boardBy(one, "...", "110 ..."), 0, 0, 1), impl.ErrVote)
	wantBoardCode(t, "one of them has not reported", impl.Propose(boardBy(one, "...", "11. ..."), 0, 0, 7), impl.ErrVote)
	wantBoardCode(t, "a mask that is none", impl.Propose(boardBy(one, "...", "110 ..."), 0, 0, 8), impl.ErrVote)
	wantBoardCode(t, "a round that is not there yet", impl.Propose(boardBy(one, "...", "01. 22."), 0, 1, 3), impl.ErrRange)
}

// Where several codes are so, the first one is told.
func TestProposeOrderOfCodes(t *testing.T) {
	proposed, silent := boardBy(nil, "...", "00. 0.."), boardBy(nil, "...", "..0 ...")
	for _, mask := range masks() {
		wantBoardCode(t, fmt.Sprint("proposed, by ", mask), impl.Propose(proposed, 0, 0, mask), impl.ErrTaken)
		wantBoardCode(t, fmt.Sprint("not reported, by ", mask), impl.Propose(silent, 0, 0, mask), impl.ErrState)
		for _, wrong := range wrongNodes {
			what := fmt.Sprint(wrong, " by ", mask)
			wantBoardCode(t, "node "+what, impl.Propose(proposed, wrong, 0, mask), impl.ErrRange)
			wantBoardCode(t, "round "+what, impl.Propose(proposed, 0, wrong, mask), impl.ErrRange)
			wantBoardCode(t, "both "+what, impl.Propose(silent, wrong, wrong, mask), impl.ErrRange)
		}
	}
}

func TestGoOn(t *testing.T) {
	one := someTxns(1)
	split := boardBy(one, "...", "110 122")
	wantResult(t, "one proposed 1", impl.GoOn(split, 0, 0, 3, 0), gone(false, false, 1, boardBy(one, "...", "110 122", "1.. ...")))
	wantResult(t, "a coin of 0", impl.GoOn(split, 1, 0, 6, 0), gone(false, true, 0, boardBy(one, "...", "110 122", ".0. ...")))
	wantResult(t, "a coin of 1", impl.GoOn(split, 2, 0, 6, 1), gone(false, true, 1, boardBy(one, "...", "110 122", "..1 ...")))
	wantResult(t, "decided", impl.GoOn(boardBy(one, "...", "110 112"), 0, 0, 3, 0), gone(true, false, 1, boardBy(one, "1..", "110 112", "1.. ...")))
	wantResult(t, "by others", impl.GoOn(boardBy(one, "...", "110 112"), 2, 0, 3, 0), gone(true, false, 1, boardBy(one, "..1", "110 112", "..1 ...")))
	wantResult(t, "one of the quorum alone", impl.GoOn(boardBy(one, "...", "110 112"), 2, 0, 6, 0), gone(false, false, 1, boardBy(one, "...", "110 112", "..1 ...")))
	wantResult(t, "0 decided", impl.GoOn(boardBy(nil, "...", "00. 00."), 1, 0, 3, 0), gone(true, false, 0, boardBy(nil, ".0.", "00. 00.", ".0. ...")))
	wantBoardCode(t, "without a proposal", impl.GoOn(boardBy(one, "...", "110 11."), 2, 0, 3, 0), impl.ErrState)
	wantBoardCode(t, "one alone is not heard", impl.GoOn(split, 0, 0, 1, 0), impl.ErrVote)
	wantBoardCode(t, "one of them has not proposed", impl.GoOn(boardBy(one, "...", "110 11."), 0, 0, 7, 0), impl.ErrVote)
	wantBoardCode(t, "no mask", impl.GoOn(split, 0, 0, 8, 0), impl.ErrVote)
	wantBoardCode(t, "no coin", impl.GoOn(split, 0, 0, 3, 2), impl.ErrRange)
	wantBoardCode(t, "a round that is not there yet", impl.GoOn(split, 0, 1, 3, 0), impl.ErrRange)
}

// A next round that is there gets a report, and no other one comes.
func TestGoOnIntoARoundThatIsThere(t *testing.T) {
	one := someTxns(1)
	x := boardBy(one, "...", "110 122", "1.. ...")
	wantResult(t, "beside another one", impl.GoOn(x, 2, 0, 6, 0), gone(false, true, 0, boardBy(one, "...", "110 122", "1.0 ...")))
	wantBoardCode(t, "who reported there", impl.GoOn(x, 0, 0, 3, 0), impl.ErrTaken)
	wantBoardCode(t, "who would have reported otherwise", impl.GoOn(x, 0, 0, 6, 0), impl.ErrTaken)
	empty := boardBy(one, "...", "110 122", "... ...", "... ...")
	wantResult(t, "an open one", impl.GoOn(empty, 1, 0, 7, 0), gone(false, false, 1, boardBy(one, "...", "110 122", ".1. ...", "... ...")))
	behind := boardBy(one, "...", "010 220", "01. 22.", "01. ...")
	wantResult(t, "who comes late", impl.GoOn(behind, 2, 0, 5, 1), gone(false, false, 0, boardBy(one, "...", "010 220", "010 22.", "01. ...")))
	decided := boardBy(one, "1..", "11. 11.", "1.. ...")
	wantBoardCode(t, "decided again", impl.GoOn(decided, 0, 0, 3, 0), impl.ErrTaken)
	heard := boardBy(one, "...", "110 112", "..1 ...")
	wantBoardCode(t, "what would be decided is not where it reported", impl.GoOn(heard, 2, 0, 3, 0), impl.ErrTaken)
}

// In the last round there is no next one: what is chosen is told, and stands nowhere but where it is decided.
func TestGoOnInTheLastRound(t *testing.T) {
	one := someTxns(1)
	at := func(decided, last string) impl.Instance {
		return boardBy(one, decided, "010 222", "010 222", "010 222", last)
	}
	wantResult(t, "decided", impl.GoOn(at("...", "110 112"), 0, 3, 3, 0), gone(true, false, 1, at("1..", "110 112")))
	wantResult(t, "decided again", impl.GoOn(at("1..", "110 112"), 0, 3, 3, 0), gone(true, false, 1, at("1..", "110 112")))
	wantResult(t, "by another one", impl.GoOn(at("1..", "110 112"), 2, 3, 3, 0), gone(true, false, 1, at("1.1", "110 112")))
	wantResult(t, "not decided", impl.GoOn(at("...", "110 112"), 0, 3, 6, 0), gone(false, false, 1, at("...", "110 112")))
	wantResult(t, "not decided behind a decision", impl.GoOn(at("1..", "110 112"), 0, 3, 6, 0), gone(false, false, 1, at("1..", "110 112")))
	wantResult(t, "a coin", impl.GoOn(at("...", "010 222"), 1, 3, 7, 1), gone(false, true, 1, at("...", "010 222")))
	wantResult(t, "into the last one", impl.GoOn(boardBy(one, "...", "010 222", "010 222", "010 222"), 1, 2, 7, 1), gone(false, true, 1, at("...", ".1. ...")))
	wantBoardCode(t, "who reported in the last one", impl.GoOn(at("...", ".1. ..."), 1, 2, 7, 1), impl.ErrTaken)
	wantBoardCode(t, "behind the last one", impl.GoOn(at("...", "110 112"), 0, 4, 3, 0), impl.ErrRange)
	without := boardBy(nil, "...", "000 000", "000 000", "000 000", "00. 00.")
	wantResult(t, "without a batch", impl.GoOn(without, 1, 3, 3, 1), gone(true, false, 0, boardBy(nil, ".0.", "000 000", "000 000", "000 000", "00. 00.")))
}

// Without a batch nobody comes to 1, whatever coin there is.
func TestGoOnWithoutABatch(t *testing.T) {
	for _, props := range []string{"000", "00.", "0.0", ".00"} {
		for mask := range int64(8) {
			for node := range int64(3) {
				x := boardBy(nil, "...", "000 "+props)
				zero, one := impl.GoOn(x, node, 0, mask, 0), impl.GoOn(x, node, 0, mask, 1)
				wantResult(t, fmt.Sprint(props, " by ", mask, " at ", node), one, zero)
				if one.Code == impl.OK && (one.Choice.Value != 0 || one.Instance.Rounds[1].Reports[node] != 0) {
					t.Errorf("%s by %d at %d: %+v", props, mask, node, one)
				}
				for _, coin := range wrongCoins {
					if got := impl.GoOn(x, node, 0, mask, coin); zero.Code != impl.ErrState {
						wantBoardCode(t, fmt.Sprint("coin ", coin), got, impl.ErrRange)
					}
				}
			}
		}
	}
}

// Where several codes are so, the first one is told.
func TestGoOnOrderOfCodes(t *testing.T) {
	one := someTxns(1)
	reported, silent := boardBy(one, "...", "110 12.", "1.. ..."), boardBy(one, "...", "110 .2.")
	wantBoardCode(t, "coin, mask and reported", impl.GoOn(reported, 0, 0, 7, 2), impl.ErrRange)
	wantBoardCode(t, "mask and reported", impl.GoOn(reported, 0, 0, 7, 0), impl.ErrVote)
	wantBoardCode(t, "coin and reported", impl.GoOn(reported, 0, 0, 3, -1), impl.ErrRange)
	for _, mask := range masks() {
		for _, coin := range append(wrongCoins, 0, 1) {
			wantBoardCode(t, fmt.Sprint("not proposed, by ", mask, " with ", coin), impl.GoOn(silent, 0, 0, mask, coin), impl.ErrState)
			for _, wrong := range wrongNodes {
				what := fmt.Sprint(wrong, " by ", mask, " with ", coin)
				wantBoardCode(t, "node "+what, impl.GoOn(reported, wrong, 0, mask, coin), impl.ErrRange)
				wantBoardCode(t, "round "+what, impl.GoOn(reported, 0, wrong, mask, coin), impl.ErrRange)
				wantBoardCode(t, "both "+what, impl.GoOn(silent, wrong, wrong, mask, coin), impl.ErrRange)
			}
		}
	}
}

func TestOutcomeOf(t *testing.T) {
	one := someTxns(1)
	wantIntCode(t, "a new one", impl.OutcomeOf(newBoard()), impl.ErrNone)
	wantIntCode(t, "agreed, and not decided", impl.OutcomeOf(boardBy(one, "...", "111 111", "111 111")), impl.ErrNone)
	for _, decided := range []string{"1..", ".1.", "..1", "11.", "1.1", ".11", "111"} {
		wantInt(t, decided, impl.OutcomeOf(boardBy(one, decided, "11. 11.")), 1)
	}
	for _, decided := range []string{"0..", ".0.", "..0", "00.", "0.0", ".00", "000"} {
		wantInt(t, decided, impl.OutcomeOf(boardBy(one, decided, "00. 00.")), 0)
		wantInt(t, decided+" without a batch", impl.OutcomeOf(boardBy(nil, decided, "00. 00.")), 0)
	}
	wantInt(t, "in the last round", impl.OutcomeOf(fullBoard()), 1)
}

// The InstanceFault is told ahead of all else, right numbers or wrong ones.
func TestTheOthersTellTheInstanceFaultFirst(t *testing.T) {
	for _, c := range allInstanceCases() {
		if c.code == impl.OK {
			continue
		}
		wantBoardCode(t, c.what+": a batch", impl.SetBatch(c.x, someTxns(1)), c.code)
		wantBoardCode(t, c.what+": no batch", impl.SetBatch(c.x, nil), c.code)
		wantIntCode(t, c.what+": outcome", impl.OutcomeOf(c.x), c.code)
		for _, node := range []int64{-1, 0, 2, 3} {
			wantBoardCode(t, c.what+": 0 reported", impl.FirstReport(c.x, node, 0), c.code)
			wantBoardCode(t, c.what+": 2 reported", impl.FirstReport(c.x, node, 2), c.code)
			for _, round := range []int64{-1, 0, 3, 4} {
				wantBoardCode(t, c.what+": proposed", impl.Propose(c.x, node, round, 7), c.code)
				wantBoardCode(t, c.what+": proposed by nobody", impl.Propose(c.x, node, round, 0), c.code)
				wantBoardCode(t, c.what+": gone on", impl.GoOn(c.x, node, round, 7, 1), c.code)
				wantBoardCode(t, c.what+": gone on without a coin", impl.GoOn(c.x, node, round, 8, 2), c.code)
			}
		}
	}
}
