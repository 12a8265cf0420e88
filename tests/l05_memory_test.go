package tests

import (
	"fmt"
	"slices"
	"testing"

	"loop.example/g00631/impl"
)

// Promise 1, of chapter 5.

func manyVotes() [][]int64 {
	lists := append(rowsOf(-1, 0, 1, none, open, 4), manyLists()...)
	for _, c := range slices.Concat(voteValueCases(), voteCountCases(), voteOrderCases()) {
		lists = append(lists, c.votes)
	}
	return lists
}

func TestRulesLeaveAllElseAlone(t *testing.T) {
	var calls []call
	few := []int64{-1, 0, 1, 2, 3, 4}
	for i, row := range manyVotes() {
		for _, most := range few {
			calls = append(calls, call2(fmt.Sprint("VotesFault ", i, " by ", most), impl.VotesFault, row, most))
			calls = append(calls, call2(fmt.Sprint("MayPropose ", i, " of ", most), impl.MayPropose, row, most))
			calls = append(calls, call2(fmt.Sprint("MayReport ", i, " of ", most), impl.MayReport, row, most))
		}
		for _, mask := range []int64{-1, 0, 3, 4, 7, 8} {
			calls = append(calls, call2(fmt.Sprint("ProposalFor ", i, " by ", mask), impl.ProposalFor, row, mask))
			for _, n := range few {
				calls = append(calls, call3(fmt.Sprint("CountVotes ", i, " by ", mask, " of ", n), impl.CountVotes, row, mask, n))
				calls = append(calls, call3(fmt.Sprint("ChoiceFor ", i, " by ", mask, " with ", n), impl.ChoiceFor, row, mask, n))
			}
		}
	}
	checkCalls(t, calls)
}

// Every number as every argument that is one: an answer comes, and it is the same the next time.
func TestRulesAnswerAtEveryNumber(t *testing.T) {
	var calls []call
	row := votes(1, none, 1)
	for _, n := range slices.Concat(manyInts, wrongMasks, wrongCoins) {
		calls = append(calls, call1(fmt.Sprint("IsQuorum ", n), impl.IsQuorum, n),
			call2(fmt.Sprint("VotesFault by ", n), impl.VotesFault, row, n), call2(fmt.Sprint("VotesFault of ", n), impl.VotesFault, votes(0, n, 1), 2),
			call2(fmt.Sprint("ProposalFor by ", n), impl.ProposalFor, votes(1, 0, 1), n), call2(fmt.Sprint("ProposalFor of ", n), impl.ProposalFor, votes(n, n, n), 7),
			call3(fmt.Sprint("CountVotes by ", n), impl.CountVotes, row, n, 1), call3(fmt.Sprint("CountVotes of ", n), impl.CountVotes, row, 7, n),
			call3(fmt.Sprint("ChoiceFor by ", n), impl.ChoiceFor, row, n, 1), call3(fmt.Sprint("ChoiceFor with ", n), impl.ChoiceFor, row, 7, n),
			call2(fmt.Sprint("MayPropose of ", n), impl.MayPropose, votes(1, 0, 1), n), call2(fmt.Sprint("MayReport of ", n), impl.MayReport, row, n))
	}
	checkCalls(t, calls)
}

// Votes that stand behind a length are none of it.
func TestRulesStopAtTheLength(t *testing.T) {
	four := votes(1, 1, none, 4)
	wantCode(t, "four cut to three", impl.VotesFault(four[:3], 2), impl.OK)
	wantCode(t, "four cut to two", impl.VotesFault(four[:2], 2), impl.ErrMany)
	wantInt(t, "counted of three", impl.CountVotes(four[:3], 7, 1), 2)
	wantIntCode(t, "counted of two", impl.CountVotes(four[:2], 3, 1), impl.ErrMany)
	wantChoice(t, "chosen by three", impl.ChoiceFor(four[:3], 7, 0), impl.Choice{Decided: true, Value: 1})
	wantBool(t, "reported by two", impl.MayReport(four[:2], 1), false)
	wantBool(t, "proposed by two", impl.MayPropose(four[:2], 1), false)
}
