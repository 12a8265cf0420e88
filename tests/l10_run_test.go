package tests

import (
	"fmt"
	"slices"
	"testing"

	"loop.example/g00631/impl"
)

// Promise 11, of whole runs: boards that are told and laid anew.

func (d *drawn) mixed(list []impl.Vote) []impl.Vote {
	mixed := slices.Clone(list)
	for at := len(mixed) - 1; at > 0; at-- {
		other := d.below(at + 1)
		mixed[at], mixed[other] = mixed[other], mixed[at]
	}
	return mixed
}

// tellings are the votes of a board in their order, backwards, mixed, and as many of them twice as a list has room for.
func (d *drawn) tellings(told []impl.Vote) [][]impl.Vote {
	backwards := slices.Clone(told)
	slices.Reverse(backwards)
	again := told[:min(len(told), 40-len(told))]
	each := []impl.Vote{}
	for i, v := range told {
		each = append(each, v)
		if i < len(again) {
			each = append(each, v)
		}
	}
	return [][]impl.Vote{told, backwards, d.mixed(told), slices.Concat(told, again), each, slices.Concat(backwards, again), d.mixed(slices.Concat(told, again))}
}

// wantToldAgain: whatever order its votes come in, and however often, the board is there again.
func wantToldAgain(t *testing.T, what string, d *drawn, x impl.Instance) {
	t.Helper()
	told := impl.VotesOf(x)
	wantVotes(t, what, told, toldByHand(x)...)
	for i, list := range d.tellings(told.Votes) {
		what := fmt.Sprint(what, ", telling ", i)
		got := impl.LayVotes(emptied(x), list)
		wantBoard(t, what, got, spokenPart(x))
		wantBoard(t, what+", once more", impl.LayVotes(got.Instance, list), spokenPart(x))
		wantBoard(t, what+", on itself", impl.LayVotes(x, list), x)
		wantVotes(t, what+", told again", impl.VotesOf(got.Instance), told.Votes...)
	}
}

func TestBoardsAreToldAgain(t *testing.T) {
	d := drawn(7)
	for i, x := range append(rightBoards(), drawnBoards(150)...) {
		wantToldAgain(t, fmt.Sprint("board ", i), &d, x)
	}
}

// tellOnly makes moves without asking anything of them, and tells all boards that are come to.
func tellOnly(start impl.Instance, moves []move, see func(x impl.Instance)) int {
	seen := map[string]bool{keyOf(start): true}
	boards := []impl.Instance{start}
	for at := 0; at < len(boards); at++ {
		see(boards[at])
		for _, m := range moves {
			got := m.made(boards[at])
			if got.Code == impl.OK && !seen[keyOf(got.Instance)] {
				seen[keyOf(got.Instance)] = true
				boards = append(boards, got.Instance)
			}
		}
	}
	return len(boards)
}

// Every board of two rounds with a batch, and every one of four rounds without.
func TestEveryBoardIsToldAgain(t *testing.T) {
	d := drawn(8)
	see := func(x impl.Instance) {
		if !t.Failed() {
			wantToldAgain(t, fmt.Sprintf("%+v", x), &d, x)
		}
	}
	two := tellOnly(boardBy(someTxns(1), "...", "... ..."), movesAmong(nodes, []int64{0, 1}, []int64{0}, quorums, twoCoins)[1:], see)
	four := tellOnly(newBoard(), movesAmong(nodes, []int64{0, 1, 2, 3}, []int64{0, 1, 2, 3}, quorums, twoCoins)[1:], see)
	if two < 8000 || four < 300 {
		t.Errorf("%d and %d boards", two, four)
	}
}

// A run is laid vote by vote: what each move adds to a board is laid on that board.
func TestRunsAreLaidVoteByVote(t *testing.T) {
	added := map[int]int{}
	for seed := range 100 {
		drawnRun(seed, func(x impl.Instance, m move) impl.InstanceResult {
			got := m.made(x)
			if got.Code != impl.OK || m.kind == "batch" {
				return got
			}
			was := toldByHand(x)
			fresh := slices.DeleteFunc(toldByHand(got.Instance), func(v impl.Vote) bool { return slices.Contains(was, v) })
			added[len(fresh)]++
			backwards := slices.Clone(fresh)
			slices.Reverse(backwards)
			wantBoard(t, fmt.Sprintf("run %d, %+v", seed, m), impl.LayVotes(x, fresh), got.Instance)
			wantBoard(t, fmt.Sprintf("run %d, %+v, backwards", seed, m), impl.LayVotes(x, backwards), got.Instance)
			return got
		})
	}
	if added[1] < 500 || added[2] < 50 || len(added) > 3 {
		t.Errorf("how many votes a move adds: %v", added)
	}
}

// Votes in two parts leave what they leave in one, where the first part leaves a board.
func TestVotesInTwoParts(t *testing.T) {
	d, parts := drawn(9), 0
	for i, x := range drawnBoards(80) {
		told := toldByHand(x)
		for cut := range len(told) + 1 {
			for _, list := range [][]impl.Vote{told, d.mixed(told)} {
				what := fmt.Sprint("board ", i, " cut at ", cut)
				first := wantLaid(t, what, emptied(x), list[:cut])
				if first.Code == impl.OK {
					parts++
					wantBoard(t, what, impl.LayVotes(first.Instance, list[cut:]), spokenPart(x))
				}
			}
		}
	}
	if parts < 300 {
		t.Errorf("%d first parts", parts)
	}
}

// vote draws mostly what a board has, or nearly so.
func (d *drawn) vote(told []impl.Vote) impl.Vote {
	v := rightVotes()[d.below(66)]
	if len(told) > 0 && d.below(6) > 0 {
		v = told[d.below(len(told))]
	}
	switch d.below(60) {
	case 0:
		v.Value = int64(d.below(4))
	case 1:
		v.Node = int64(d.below(5) - 1)
	case 2:
		v.Round = int64(d.below(6) - 1)
	case 3:
		v.Kind = int64(d.below(5))
	}
	return v
}

// Drawn lists, with and without faults, on drawn boards of which some have them already.
func TestLayVotesOfDrawnLists(t *testing.T) {
	d, codes := drawn(10), map[int64]int{}
	boards := append(rightBoards(), drawnBoards(60)...)
	for range 30000 {
		x := boards[d.below(len(boards))]
		told := toldByHand(x)
		var list []impl.Vote
		for range d.below(8) {
			list = append(list, d.vote(told))
		}
		start := x
		switch d.below(3) {
		case 0:
			start = emptied(x)
			list = append(list, told...)
		case 1:
			start = wantLaid(t, "a beginning", emptied(x), told[:d.below(len(told)+1)]).Instance
			if len(start.Rounds) == 0 {
				start = emptied(x)
			}
		}
		if d.below(3) == 0 {
			list = d.mixed(list)
		}
		codes[wantLaid(t, fmt.Sprintf("%+v on %+v", list, start), start, list).Code]++
	}
	for _, code := range []int64{impl.OK, impl.ErrForm, impl.ErrRange, impl.ErrTaken, impl.ErrVote} {
		if codes[code] < 100 {
			t.Errorf("too few of code %d: %v", code, codes)
		}
	}
}
