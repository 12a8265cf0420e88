package tests

import (
	"fmt"
	"slices"
	"testing"

	"loop.example/g00631/impl"
)

// Promise 1, of chapter 10.

// manyVoteLists are laid on the board x: right and wrong ones, with lists that are nil, empty and too long.
func manyVoteLists(x impl.Instance) [][]impl.Vote {
	var told []impl.Vote
	if impl.InstanceFault(x) == impl.OK {
		told = toldByHand(x)
	}
	backwards := slices.Clone(told)
	slices.Reverse(backwards)
	return [][]impl.Vote{nil, {}, {{}}, told, backwards, told[:len(told)/2], often(26), often(40), often(41), make([]impl.Vote, 300), rightVotes()[:40],
		{report(0, 0, 0)}, {report(0, 2, 1), report(0, 1, 1)}, {report(1, 0, 0)}, {proposal(3, 2, none)}, {ending(1, 0)}, {report(0, 0, 0), {Kind: 4}}, {report(2, 0, 0), report(2, 0, 1)}}
}

func manyVoteBytes() [][]byte {
	all := manyBytes()
	for _, v := range rightVotes() {
		data := summed(packedByHand(numbersOfVote(v)))
		turned := slices.Clone(data)
		turned[v.Node] ^= 1
		all = append(all, data, data[:10], data[1:], turned, append(slices.Clone(data), 0), summed(data))
	}
	for _, v := range nearVotes()[:200] {
		all = append(all, summed(packedByHand(numbersOfVote(v))))
	}
	return all
}

func TestBoardsOfVotesLeaveAllElseAlone(t *testing.T) {
	var calls []call
	for i, x := range manyInstances() {
		calls = append(calls, call1(fmt.Sprint("VotesOf ", i), impl.VotesOf, x))
		for j, list := range manyVoteLists(x) {
			calls = append(calls, call2(fmt.Sprint("LayVotes ", j, " on ", i), impl.LayVotes, x, list), call2(fmt.Sprint("LayVotes ", j, " on ", i, " emptied"), impl.LayVotes, emptied(x), list))
		}
	}
	checkCalls(t, calls)
}

func TestVotesLeaveAllElseAlone(t *testing.T) {
	var calls []call
	for i, data := range manyVoteBytes() {
		calls = append(calls, call1(fmt.Sprint("ReadVote ", i), impl.ReadVote, data))
	}
	for _, v := range slices.Concat(rightVotes(), nearVotes()) {
		calls = append(calls, call1(fmt.Sprintf("VoteFault %+v", v), impl.VoteFault, v), call1(fmt.Sprintf("PackVote %+v", v), impl.PackVote, v))
	}
	for i, a := range manyVoteLists(fullBoard()) {
		for j, b := range manyVoteLists(boardBy(nil, "0..", "00. 00.")) {
			calls = append(calls, call2(fmt.Sprint("SameVotes ", i, " and ", j), impl.SameVotes, a, b))
		}
	}
	checkCalls(t, calls)
}

// Every number as every field of a vote that is laid.
func TestLayVotesAnswersAtEveryNumber(t *testing.T) {
	var calls []call
	for _, n := range manyInts {
		for i, v := range []impl.Vote{{Kind: n}, {Kind: 1, Round: n}, {Kind: 2, Round: n, Value: none}, {Kind: 3, Round: n}, {Kind: 1, Node: n}, {Kind: 3, Node: n}, {Kind: 1, Value: n}, {Kind: 2, Value: n}, {Kind: 3, Value: n}, {Kind: n, Round: n, Node: n, Value: n}} {
			for j, x := range []impl.Instance{newBoard(), fullBoard()} {
				calls = append(calls, call2(fmt.Sprint("LayVotes of ", n, " as ", i, " on ", j), impl.LayVotes, x, []impl.Vote{v}))
			}
		}
	}
	checkCalls(t, calls)
}

// What is answered is the caller's own: what is written to it, or later to the arguments, shows nowhere else.
func TestVotesAreNewMemory(t *testing.T) {
	young, batch := boardBy(someTxns(2), "...", "10. 22."), someTxns(2)
	list := []impl.Vote{report(2, 1, 1), report(1, 1, 0), report(1, 0, 1), proposal(1, 1, none), proposal(1, 0, none)}
	want := boardBy(batch, "...", "10. 22.", "10. 22.", ".1. ...")
	told := toldByHand(fullBoard())
	full, packed := fullBoard(), impl.PackVote(report(1, 1, 1))
	firstLaid, firstVotes, firstPacked := impl.LayVotes(young, list), impl.VotesOf(full), impl.PackVote(report(1, 1, 1))
	otherLaid, otherVotes := impl.LayVotes(young, list), impl.VotesOf(full)
	overwrite(firstLaid)
	overwrite(firstVotes)
	overwrite(firstPacked)
	wantSameInstances(t, "the board behind it", young, boardBy(batch, "...", "10. 22."), true)
	wantSameInstances(t, "the full board behind it", full, fullBoard(), true)
	wantSameVotes(t, "the list behind it", list, []impl.Vote{report(2, 1, 1), report(1, 1, 0), report(1, 0, 1), proposal(1, 1, none), proposal(1, 0, none)}, true)
	wantBoard(t, "the next answer", impl.LayVotes(young, list), want)
	overwrite(young)
	overwrite(list)
	overwrite(full)
	wantBoard(t, "the other answer", otherLaid, want)
	wantVotes(t, "the other votes", otherVotes, told...)
	wantVote(t, "the other bytes", impl.ReadVote(packed.Bytes), report(1, 1, 1))
	read := impl.ReadVote(packed.Bytes)
	overwrite(packed)
	wantVote(t, "a vote whose bytes were written over later", read, report(1, 1, 1))
}

// Rounds that come behind have rows of their own, and none of a board that stays as it was is kept.
func TestLaidRoundsAreNewMemory(t *testing.T) {
	last := boardBy(someTxns(4), "...", "010 222", "0.1 2.2", "1.0 2.2", "..1 ...")
	for i, list := range manyVoteLists(last) {
		checkNewMemory(t, fmt.Sprint("on a new one, ", i), impl.LayVotes(emptied(last), list), []any{list})
		checkNewMemory(t, fmt.Sprint("on it, ", i), impl.LayVotes(last, list), []any{last, list})
	}
	first := impl.LayVotes(emptied(last), toldByHand(last))
	overwrite(first)
	wantBoard(t, "open rows behind one that was written over", impl.LayVotes(emptied(last), toldByHand(last)), last)
	wantBoard(t, "a new instance behind it", impl.NewInstance(), newBoard())
}

// Lists that an argument has twice are told apart in the answer.
func TestSharedBoardsAreToldApart(t *testing.T) {
	row, batch := rowBy("..."), someTxns(3)
	batch[1].Acts, batch[2].Acts = batch[0].Acts, batch[0].Acts
	x := impl.Instance{Has: true, Batch: batch, Rounds: []impl.Round{{Reports: row, Props: row}, {Reports: row, Props: row}}, Decided: row}
	got := impl.LayVotes(x, []impl.Vote{report(0, 0, 1), report(0, 1, 1), proposal(0, 0, 1)})
	wantBoard(t, "one row for all", got, boardBy(someTxns(3), "...", "11. 1..", "... ..."))
	checkNewMemory(t, "one row for all", got, []any{x})
	if !slices.Equal(row, rowBy("...")) {
		t.Errorf("the row is %v", row)
	}
}

// What stands behind a length is none of it, and stays.
func TestVotesStopAtTheLength(t *testing.T) {
	list := often(60)
	wantBoard(t, "60 cut to 40", impl.LayVotes(emptied(fullBoard()), list[:40]), fullBoard())
	wantBoard(t, "60 cut to none", impl.LayVotes(newBoard(), list[:0]), newBoard())
	wantBoardCode(t, "60 cut to 41", impl.LayVotes(fullBoard(), list[:41]), impl.ErrMany)
	wantSameVotes(t, "the list behind it", list, often(60), true)
	wantSameVotes(t, "cut otherwise", list[:3], list[:4], false)
	x := fullBoard()
	x.Rounds, x.Decided = x.Rounds[:1], rowBy("...")
	wantBoard(t, "a round that stands behind the length", impl.LayVotes(x, []impl.Vote{report(1, 1, 1)}), boardBy(someTxns(4), "...", "110 122", ".1. ..."))
	whole := x.Rounds[:4]
	if !slices.Equal(whole[1].Reports, rowBy("101")) || !slices.Equal(whole[1].Props, rowBy("122")) {
		t.Errorf("the round behind the length is %+v", whole[1])
	}
	wantVotes(t, "cut to a round", impl.VotesOf(x), toldByHand(boardBy(nil, "...", "110 122"))...)
	data := append(summed(packedByHand(numbersOfVote(ending(2, 1)))), 0, 0, 0)
	wantVote(t, "bytes behind the length", impl.ReadVote(data[:11]), ending(2, 1))
	wantUnread(t, "all bytes", data)
	wantUnread(t, "the sum behind the length", data[:9])
}
