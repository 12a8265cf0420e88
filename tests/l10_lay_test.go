package tests

import (
	"fmt"
	"slices"
	"testing"

	"loop.example/g00631/impl"
)

// Promise 11, of boards: what VotesOf tells, what LayVotes makes of a board, and their codes.

// toldByHand are the votes of a board whose rows have no fault.
func toldByHand(x impl.Instance) []impl.Vote {
	var list []impl.Vote
	tell := func(row []int64, voteOf func(node, value int64) impl.Vote) {
		for node, value := range row {
			if value != open {
				list = append(list, voteOf(int64(node), value))
			}
		}
	}
	for r, round := range x.Rounds {
		tell(round.Reports, func(node, value int64) impl.Vote { return report(int64(r), node, value) })
		tell(round.Props, func(node, value int64) impl.Vote { return proposal(int64(r), node, value) })
	}
	tell(x.Decided, ending)
	return list
}

// placeByHand is where a right vote stands on a board that has its round.
func placeByHand(x impl.Instance, v impl.Vote) *int64 {
	if v.Kind == impl.VoteEnd {
		return &x.Decided[v.Node]
	}
	if v.Kind == impl.VoteProp {
		return &x.Rounds[v.Round].Props[v.Node]
	}
	return &x.Rounds[v.Round].Reports[v.Node]
}

// layByText is LayVotes of a right board, by the chapter's words.
func layByText(x impl.Instance, list []impl.Vote) impl.InstanceResult {
	if len(list) > 40 {
		return impl.InstanceResult{Code: impl.ErrMany}
	}
	y := cloneBoard(x)
	for _, v := range list {
		if code := voteFaultByList(v); code != impl.OK {
			return impl.InstanceResult{Code: code}
		}
		for int64(len(y.Rounds)) <= v.Round {
			y.Rounds = append(y.Rounds, impl.Round{Reports: rowBy("..."), Props: rowBy("...")})
		}
		place := placeByHand(y, v)
		if *place != open && *place != v.Value {
			return impl.InstanceResult{Code: impl.ErrTaken}
		}
		*place = v.Value
	}
	if !isSaidByRules(y) {
		return impl.InstanceResult{Code: impl.ErrVote}
	}
	return impl.InstanceResult{Instance: y}
}

// wantLaid holds LayVotes against the chapter's words, and asks what is promised of what is laid.
func wantLaid(t *testing.T, what string, x impl.Instance, list []impl.Vote) impl.InstanceResult {
	t.Helper()
	got := impl.LayVotes(x, list)
	wantResult(t, what, got, layByText(x, list))
	if got.Code == impl.OK {
		wantCode(t, what+": the board behind it", impl.InstanceFault(got.Instance), impl.OK)
		wantStays(t, what, x, got.Instance)
		wantAgreed(t, what, got.Instance)
	}
	return got
}

// emptied has the batch of x, and no votes.
func emptied(x impl.Instance) impl.Instance { return boardBy(x.Batch, "...", "... ...") }

// spokenPart is x without the rounds behind the last vote, of which no vote tells.
func spokenPart(x impl.Instance) impl.Instance {
	last := 1
	for r, round := range x.Rounds {
		if countIn(round.Reports, open)+countIn(round.Props, open) < 6 {
			last = r + 1
		}
	}
	x.Rounds = x.Rounds[:last]
	return x
}

func wantVotes(t *testing.T, what string, got impl.VoteList, want ...impl.Vote) {
	t.Helper()
	if got.Code != impl.OK || !slices.Equal(got.Votes, want) {
		t.Errorf("%s: got %+v, want %+v", what, got, want)
	}
}

func wantVotesCode(t *testing.T, what string, got impl.VoteList, code int64) {
	t.Helper()
	if got.Code != code || len(got.Votes) != 0 {
		t.Errorf("%s: got %+v, want code %d and nothing else", what, got, code)
	}
}

func TestVotesOfByHand(t *testing.T) {
	one := someTxns(1)
	wantVotes(t, "a new one", impl.VotesOf(newBoard()))
	wantVotes(t, "a batch alone", impl.VotesOf(boardBy(someTxns(4), "...", "... ...")))
	wantVotes(t, "the last node alone", impl.VotesOf(boardBy(nil, "...", "..0 ...")), report(0, 2, 0))
	wantVotes(t, "rounds of nothing", impl.VotesOf(boardBy(nil, "...", ".0. ...", "... ...", "... ...", "... ...")), report(0, 1, 0))
	wantVotes(t, "without a batch", impl.VotesOf(boardBy(nil, ".0.", "0.0 0.0", "0.. ...")),
		report(0, 0, 0), report(0, 2, 0), proposal(0, 0, 0), proposal(0, 2, 0), report(1, 0, 0), ending(1, 0))
	wantVotes(t, "with a batch, and holes", impl.VotesOf(boardBy(one, "..1", "101 2.1", "1.1 1.1")),
		report(0, 0, 1), report(0, 1, 0), report(0, 2, 1), proposal(0, 0, none), proposal(0, 2, 1), report(1, 0, 1), report(1, 2, 1), proposal(1, 0, 1), proposal(1, 2, 1), ending(2, 1))
}

func TestVotesOfTheFullBoard(t *testing.T) {
	want := []impl.Vote{
		report(0, 0, 1), report(0, 1, 1), report(0, 2, 0), proposal(0, 0, 1), proposal(0, 1, none), proposal(0, 2, none),
		report(1, 0, 1), report(1, 1, 0), report(1, 2, 1), proposal(1, 0, 1), proposal(1, 1, none), proposal(1, 2, none),
		report(2, 0, 1), report(2, 1, 1), report(2, 2, 0), proposal(2, 0, none), proposal(2, 1, none), proposal(2, 2, none),
		report(3, 0, 0), report(3, 1, 1), report(3, 2, 1), proposal(3, 0, 1), proposal(3, 1, 1), proposal(3, 2, none),
		ending(0, 1), ending(1, 1),
	}
	wantVotes(t, "all rounds", impl.VotesOf(fullBoard()), want...)
	x := fullBoard()
	x.Decided = rowBy("111")
	wantVotes(t, "all decided", impl.VotesOf(x), append(want, ending(2, 1))...)
}

func TestVotesOfTellsTheInstanceFault(t *testing.T) {
	for _, c := range allInstanceCases() {
		if c.code != impl.OK {
			wantVotesCode(t, c.what, impl.VotesOf(c.x), c.code)
			continue
		}
		wantVotes(t, c.what, impl.VotesOf(c.x), toldByHand(c.x)...)
	}
}

// Of every vote that is told there is no fault, and it is read back.
func TestVotesOfAreRightVotes(t *testing.T) {
	for i, x := range append(rightBoards(), drawnBoards(60)...) {
		list := impl.VotesOf(x).Votes
		wantVotes(t, fmt.Sprint("board ", i), impl.VotesOf(x), toldByHand(x)...)
		for _, v := range list {
			wantCode(t, fmt.Sprint("board ", i), impl.VoteFault(v), impl.OK)
			wantVote(t, fmt.Sprint("board ", i), impl.ReadVote(impl.PackVote(v).Bytes), v)
		}
		wantLaid(t, fmt.Sprint("what board ", i, " has"), x, list)
		wantBoard(t, fmt.Sprint("what board ", i, " has"), impl.LayVotes(x, list), x)
	}
}

func TestLayVotesByHand(t *testing.T) {
	one := someTxns(1)
	wantBoard(t, "a report", impl.LayVotes(newBoard(), []impl.Vote{report(0, 1, 0)}), boardBy(nil, "...", ".0. ..."))
	wantBoard(t, "a report of 1", impl.LayVotes(boardBy(one, "...", "... ..."), []impl.Vote{report(0, 2, 1)}), boardBy(one, "...", "..1 ..."))
	wantBoard(t, "a proposal", impl.LayVotes(boardBy(one, "...", "11. ..."), []impl.Vote{proposal(0, 1, 1)}), boardBy(one, "...", "11. .1."))
	wantBoard(t, "a proposal of nothing", impl.LayVotes(boardBy(one, "...", "10. ..."), []impl.Vote{proposal(0, 0, none)}), boardBy(one, "...", "10. 2.."))
	wantBoard(t, "an end", impl.LayVotes(boardBy(one, "...", "11. 11."), []impl.Vote{ending(2, 1)}), boardBy(one, "..1", "11. 11."))
	wantBoard(t, "an end of what an inner round agreed on", impl.LayVotes(boardBy(one, "...", "01. 22.", "00. 00.", "0.. ..."), []impl.Vote{ending(0, 0)}), boardBy(one, "0..", "01. 22.", "00. 00.", "0.. ..."))
	wantBoard(t, "several", impl.LayVotes(boardBy(one, "...", ".1. ..."), []impl.Vote{ending(1, 1), proposal(0, 1, 1), report(0, 0, 1), proposal(0, 0, 1)}), boardBy(one, ".1.", "11. 11."))
	wantBoardCode(t, "1 without a batch", impl.LayVotes(newBoard(), []impl.Vote{report(0, 0, 1)}), impl.ErrVote)
	wantBoardCode(t, "a proposal without a report", impl.LayVotes(boardBy(one, "...", "11. ..."), []impl.Vote{proposal(0, 2, 1)}), impl.ErrVote)
	wantBoardCode(t, "an end of what one proposed", impl.LayVotes(boardBy(one, "...", "11. 1.."), []impl.Vote{ending(0, 1)}), impl.ErrVote)
}

func TestLayVotesOfNone(t *testing.T) {
	for i, x := range append(rightBoards(), drawnBoards(60)...) {
		wantBoard(t, fmt.Sprint("nil on ", i), impl.LayVotes(x, nil), x)
		wantBoard(t, fmt.Sprint("an empty list on ", i), impl.LayVotes(x, []impl.Vote{}), x)
	}
}

// Every vote alone, right or not, on boards of all kinds.
func TestLayVotesOfOne(t *testing.T) {
	boards := append(rightBoards(), drawnBoards(40)...)
	for _, v := range rightVotes() {
		for i, x := range boards {
			wantLaid(t, fmt.Sprintf("%+v on %d", v, i), x, []impl.Vote{v})
		}
	}
	for at, v := range nearVotes() {
		i := at % len(boards)
		if code := voteFaultByList(v); code != impl.OK {
			wantBoardCode(t, fmt.Sprintf("%+v on %d", v, i), impl.LayVotes(boards[i], []impl.Vote{v}), code)
		}
	}
}

// often is a list of so many votes, all of them those of the full board.
func often(count int) []impl.Vote {
	var list []impl.Vote
	for len(list) < count {
		list = append(list, toldByHand(fullBoard())...)
	}
	return list[:count]
}

func TestLayVotesOf40(t *testing.T) {
	for _, x := range []impl.Instance{fullBoard(), emptied(fullBoard())} {
		for _, count := range []int{26, 27, 39, 40} {
			wantBoard(t, fmt.Sprint(count), impl.LayVotes(x, often(count)), fullBoard())
		}
		for _, count := range []int{41, 42, 80, 256, 256 + 1, 256 + 40, 1000} {
			wantBoardCode(t, fmt.Sprint(count), impl.LayVotes(x, often(count)), impl.ErrMany)
			wantBoardCode(t, fmt.Sprint(count, " with a fault"), impl.LayVotes(x, make([]impl.Vote, count)), impl.ErrMany)
			wantBoardCode(t, fmt.Sprint(count, " that are taken"), impl.LayVotes(x, append(often(count-1), report(0, 0, 0))), impl.ErrMany)
		}
	}
	wantBoard(t, "one that is said 40 times", impl.LayVotes(newBoard(), slices.Repeat([]impl.Vote{report(0, 2, 0)}, 40)), boardBy(nil, "...", "..0 ..."))
	wantBoardCode(t, "one that is said 41 times", impl.LayVotes(newBoard(), slices.Repeat([]impl.Vote{report(0, 2, 0)}, 41)), impl.ErrMany)
}

// A vote that is there already, on the board or earlier in the list: alike it is laid again, otherwise it is taken.
func TestLayVotesOfWhatIsThere(t *testing.T) {
	for i, x := range append(rightBoards(), drawnBoards(20)...) {
		told := toldByHand(x)
		for _, v := range told {
			what := fmt.Sprintf("%+v of %d", v, i)
			wantBoard(t, what+" again", impl.LayVotes(x, []impl.Vote{v}), x)
			wantBoard(t, what+" again, in a list", impl.LayVotes(emptied(x), append(slices.Clone(told), v)), spokenPart(x))
			for value := range int64(3) {
				other := v
				other.Value = value
				if value == v.Value || value == none && v.Kind != impl.VoteProp {
					continue
				}
				wantBoardCode(t, what+" otherwise", impl.LayVotes(x, []impl.Vote{other}), impl.ErrTaken)
				wantBoardCode(t, what+" otherwise, behind it", impl.LayVotes(emptied(x), append(slices.Clone(told), other)), impl.ErrTaken)
				wantBoardCode(t, what+" otherwise, ahead of it", impl.LayVotes(emptied(x), append([]impl.Vote{other}, told...)), impl.ErrTaken)
				wantBoardCode(t, what+" both ways", impl.LayVotes(emptied(x), []impl.Vote{v, other}), impl.ErrTaken)
			}
		}
	}
}

// Only the Kind and the Round of a vote, and its node, are its place.
func TestLayVotesBesideOthers(t *testing.T) {
	one := someTxns(1)
	x := boardBy(one, "...", "110 122", "1.. ...")
	wantBoard(t, "another node", impl.LayVotes(x, []impl.Vote{report(1, 1, 0)}), boardBy(one, "...", "110 122", "10. ..."))
	wantBoard(t, "another round", impl.LayVotes(boardBy(one, "...", "010 222"), []impl.Vote{report(1, 0, 1)}), boardBy(one, "...", "010 222", "1.. ..."))
	wantBoard(t, "another kind", impl.LayVotes(boardBy(one, "...", "110 11."), []impl.Vote{proposal(0, 2, 1)}), boardBy(one, "...", "110 111"))
	wantBoard(t, "an end of a node that reported otherwise", impl.LayVotes(boardBy(one, "...", "110 11."), []impl.Vote{ending(2, 1)}), boardBy(one, "..1", "110 11."))
}

// Rounds that are not there yet come behind, and nobody has voted in them.
func TestLayVotesInRoundsThatAreNotThere(t *testing.T) {
	one := someTxns(1)
	split := boardBy(one, "...", "01. 22.")
	wantBoard(t, "one behind the last", impl.LayVotes(split, []impl.Vote{report(1, 1, 0)}), boardBy(one, "...", "01. 22.", ".0. ..."))
	wantBoardCode(t, "a proposal there", impl.LayVotes(split, []impl.Vote{proposal(1, 1, 0)}), impl.ErrVote)
	wantBoard(t, "a proposal there ahead of its reports", impl.LayVotes(split, []impl.Vote{proposal(1, 1, 0), report(1, 1, 0), report(1, 0, 0)}), boardBy(one, "...", "01. 22.", "00. .0."))
	for round := int64(2); round < 4; round++ {
		wantBoardCode(t, fmt.Sprint("a report in ", round), impl.LayVotes(split, []impl.Vote{report(round, 1, 0)}), impl.ErrVote)
		wantBoardCode(t, fmt.Sprint("a proposal in ", round), impl.LayVotes(split, []impl.Vote{proposal(round, 1, 0)}), impl.ErrVote)
		wantBoardCode(t, fmt.Sprint("a report in ", round, ", and its fellow"), impl.LayVotes(split, []impl.Vote{report(round, 1, 0), report(round, 0, 0)}), impl.ErrVote)
	}
	want := boardBy(one, "...", "01. 22.", "01. 22.", "0.. ...")
	wantBoard(t, "two behind the last, ahead of the one between", impl.LayVotes(split, []impl.Vote{report(2, 0, 0), proposal(1, 0, none), proposal(1, 1, none), report(1, 0, 0), report(1, 1, 1)}), want)
	last := boardBy(one, "...", "010 222", "0.1 2.2", "1.0 2.2", "..1 ...")
	told := toldByHand(last)
	slices.Reverse(told)
	wantBoard(t, "the last one first", impl.LayVotes(emptied(last), told), last)
	wantBoard(t, "the last one, where all else is", impl.LayVotes(boardBy(one, "...", "01. 22.", "01. 22.", "01. 22."), []impl.Vote{report(3, 0, 1)}), boardBy(one, "...", "01. 22.", "01. 22.", "01. 22.", "1.. ..."))
	for _, behind := range []int64{4, 5, 256, 1 << 32} {
		wantBoardCode(t, "a report behind the last one", impl.LayVotes(split, []impl.Vote{report(behind, 0, 0)}), impl.ErrRange)
		wantBoardCode(t, "a proposal behind the last one", impl.LayVotes(split, []impl.Vote{proposal(behind, 0, 0)}), impl.ErrRange)
	}
}

// In a round that came by the list a vote is taken as anywhere else.
func TestLayVotesIsTakenInRoundsThatCome(t *testing.T) {
	for round := int64(1); round < 4; round++ {
		for node := range int64(3) {
			what := fmt.Sprint("round ", round, ", node ", node)
			wantBoardCode(t, what, impl.LayVotes(newBoard(), []impl.Vote{report(round, node, 0), report(round, node, 1)}), impl.ErrTaken)
			wantBoardCode(t, what+" proposed", impl.LayVotes(newBoard(), []impl.Vote{proposal(round, node, 0), proposal(round, node, none)}), impl.ErrTaken)
			wantBoardCode(t, what+" reported and proposed", impl.LayVotes(newBoard(), []impl.Vote{report(round, node, 1), proposal(round, node, 0)}), impl.ErrVote)
			wantBoardCode(t, what+" and the one ahead", impl.LayVotes(newBoard(), []impl.Vote{report(round, node, 1), report(round-1, node, 0)}), impl.ErrVote)
		}
	}
}

// Rounds that are there and in which nobody has voted stay; no vote tells of them.
func TestLayVotesLeavesOpenRounds(t *testing.T) {
	x := boardBy(nil, "0..", "00. 00.", "... ...", "... ...")
	wantBoard(t, "on a new one", impl.LayVotes(newBoard(), toldByHand(x)), boardBy(nil, "0..", "00. 00."))
	wantBoard(t, "on one with rounds", impl.LayVotes(boardBy(nil, "...", "... ...", "... ...", "... ..."), toldByHand(x)), x)
	wantBoard(t, "on one with more rounds", impl.LayVotes(boardBy(nil, "...", "... ...", "... ...", "... ...", "... ..."), toldByHand(x)), boardBy(nil, "0..", "00. 00.", "... ...", "... ...", "... ..."))
	wantBoard(t, "in one of them", impl.LayVotes(x, []impl.Vote{report(1, 1, 0)}), boardBy(nil, "0..", "00. 00.", ".0. ...", "... ..."))
}

// The batch, and whether there is one, stays, whatever board the votes were told by.
func TestLayVotesLeavesTheBatch(t *testing.T) {
	zeros := toldByHand(boardBy(nil, "000", "000 000", "000 000"))
	for count := range 5 {
		wantBoard(t, fmt.Sprint("0 with ", count), impl.LayVotes(boardBy(someTxns(count), "...", "... ..."), zeros), boardBy(someTxns(count), "000", "000 000", "000 000"))
	}
	ones := toldByHand(boardBy(someTxns(1), "1..", "11. 11."))
	batch := []impl.Txn{txnOf(9, 9, 9, remove(9)), txnOf(8, 8, 8, put(8, 8), holds(8, 8))}
	wantBoard(t, "1 with another batch", impl.LayVotes(boardBy(batch, "...", "... ..."), ones), boardBy(batch, "1..", "11. 11."))
	wantBoardCode(t, "1 without a batch", impl.LayVotes(newBoard(), ones), impl.ErrVote)
	wantBoardCode(t, "a coin of 1 without a batch", impl.LayVotes(newBoard(), []impl.Vote{report(0, 0, 0), report(0, 1, 0), proposal(0, 0, 0), proposal(0, 1, 0), report(1, 0, 1)}), impl.ErrVote)
}

// listFaults have a code each wherever they stand in a list that is laid on the full board, or that tells it.
func listFaults() []faultyVote {
	return []faultyVote{{"no Kind", impl.Vote{}, impl.ErrForm}, {"an end with a Round", impl.Vote{Kind: impl.VoteEnd, Round: 1}, impl.ErrForm}, {"no Round", report(4, 0, 1), impl.ErrRange},
		{"no Value", report(0, 0, none), impl.ErrRange}, {"no Node", proposal(0, -1, 1), impl.ErrRange}, {"taken", report(0, 0, 0), impl.ErrTaken}, {"a proposal that is taken", proposal(3, 1, none), impl.ErrTaken}}
}

// One by one: the first one of a list that has a code is told, whatever code that is.
func TestLayVotesOrderOfCodes(t *testing.T) {
	for _, x := range []impl.Instance{fullBoard(), emptied(fullBoard())} {
		for _, first := range listFaults() {
			for _, at := range []int{0, 1, 13, 25, 26} {
				wantBoardCode(t, fmt.Sprint(first.what, " at ", at), impl.LayVotes(x, slices.Insert(often(26), at, first.vote)), first.code)
			}
			for _, second := range listFaults() {
				what := first.what + ", then " + second.what
				wantBoardCode(t, what, impl.LayVotes(x, slices.Concat(often(26), []impl.Vote{first.vote, second.vote})), first.code)
				wantBoardCode(t, what+", apart", impl.LayVotes(x, slices.Concat(often(26), []impl.Vote{first.vote}, often(12), []impl.Vote{second.vote})), first.code)
				wantBoardCode(t, what+", first and last", impl.LayVotes(fullBoard(), slices.Concat([]impl.Vote{first.vote}, often(26), []impl.Vote{second.vote})), first.code)
			}
		}
	}
}

// That something may not be said is told behind all other codes, wherever it stands.
func TestLayVotesTellsTheBoardLast(t *testing.T) {
	unsaid := []impl.Vote{report(0, 0, 1), proposal(0, 0, 0), ending(0, 1), report(3, 2, 0)}
	for _, v := range unsaid {
		wantBoardCode(t, fmt.Sprintf("%+v alone", v), impl.LayVotes(newBoard(), []impl.Vote{v}), impl.ErrVote)
		wantBoardCode(t, fmt.Sprintf("%+v twice", v), impl.LayVotes(newBoard(), []impl.Vote{v, v}), impl.ErrVote)
		other := v
		other.Value = 1 - v.Value
		wantBoardCode(t, fmt.Sprintf("%+v, then otherwise", v), impl.LayVotes(newBoard(), []impl.Vote{v, other}), impl.ErrTaken)
		for _, fault := range listFaults()[:5] {
			wantBoardCode(t, fmt.Sprintf("%+v, then %s", v, fault.what), impl.LayVotes(newBoard(), []impl.Vote{v, fault.vote}), fault.code)
			wantBoardCode(t, fmt.Sprintf("%s, then %+v", fault.what, v), impl.LayVotes(newBoard(), []impl.Vote{fault.vote, v}), fault.code)
		}
	}
	fault := impl.Vote{Kind: impl.VoteReport, Node: 3}
	wantBoardCode(t, "a vote with a fault where another one is", impl.LayVotes(fullBoard(), []impl.Vote{report(0, 0, none)}), impl.ErrRange)
	wantBoardCode(t, "a fault behind one that is taken", impl.LayVotes(fullBoard(), []impl.Vote{report(0, 0, 0), fault}), impl.ErrTaken)
	wantBoardCode(t, "one that is taken behind a fault", impl.LayVotes(fullBoard(), []impl.Vote{fault, report(0, 0, 0)}), impl.ErrRange)
}

// Votes that tell a board with a fault leave that fault, in whatever order.
func TestLayVotesOfBoardsThatMayNotBe(t *testing.T) {
	for _, c := range saidCases() {
		told := toldByHand(c.x)
		backwards := slices.Clone(told)
		slices.Reverse(backwards)
		for _, list := range [][]impl.Vote{told, backwards, append(slices.Clone(told), told...)} {
			if c.code == impl.OK {
				wantBoard(t, c.what, impl.LayVotes(emptied(c.x), list), c.x)
				continue
			}
			wantBoardCode(t, c.what, impl.LayVotes(emptied(c.x), list), c.code)
		}
	}
}

func TestLayVotesTellsTheInstanceFaultFirst(t *testing.T) {
	lists := [][]impl.Vote{nil, {report(0, 0, 0)}, {{}}, {report(0, 3, 0)}, {report(0, 0, 0), report(0, 0, 1)}, {ending(0, 1)}, often(40), often(41), make([]impl.Vote, 300)}
	for _, c := range allInstanceCases() {
		if c.code == impl.OK {
			continue
		}
		for i, list := range lists {
			wantBoardCode(t, fmt.Sprint(c.what, ", list ", i), impl.LayVotes(c.x, list), c.code)
		}
	}
}

// What would mend a board is not laid on it: its fault is asked first.
func TestLayVotesMendsNoBoard(t *testing.T) {
	one := someTxns(1)
	broken := boardBy(one, "...", "1.. 1..")
	wantBoardCode(t, "a proposal that one more report would let be", impl.LayVotes(broken, []impl.Vote{report(0, 1, 1)}), impl.ErrVote)
	wantBoard(t, "all of it on a new one", impl.LayVotes(emptied(broken), []impl.Vote{report(0, 0, 1), proposal(0, 0, 1), report(0, 1, 1)}), boardBy(one, "...", "11. 1.."))
}
