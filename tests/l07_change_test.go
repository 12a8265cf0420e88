package tests

import (
	"fmt"
	"slices"
	"testing"

	"loop.example/g00631/impl"
)

// Promise 8, of ChangeLast: a board that only grows.

// saidOn tells all that a board has as texts, so that one that has grown has all texts of the one that was.
func saidOn(x impl.Instance) []string {
	var said []string
	if x.Has {
		said = append(said, fmt.Sprint("batch ", x.Batch))
	}
	for r, round := range x.Rounds {
		said = append(said, fmt.Sprint("round ", r))
		for n := range 3 {
			if round.Reports[n] != open {
				said = append(said, fmt.Sprint("report ", r, n, round.Reports[n]))
			}
			if round.Props[n] != open {
				said = append(said, fmt.Sprint("prop ", r, n, round.Props[n]))
			}
		}
	}
	for n, value := range x.Decided {
		if value != open {
			said = append(said, fmt.Sprint("decided ", n, value))
		}
	}
	return said
}

func hasGrown(was, x impl.Instance) bool {
	now := saidOn(x)
	return !slices.ContainsFunc(saidOn(was), func(text string) bool { return !slices.Contains(now, text) })
}

// wantChange asks ChangeLast of orders of one and of four whose last one was, and of what comes of it.
func wantChange(t *testing.T, what string, was, x impl.Instance) {
	t.Helper()
	for _, count := range []int{0, 3} {
		list := append(decidedOrder(0, count), was)
		got := impl.ChangeLast(list, x)
		if code := impl.InstanceFault(x); code != impl.OK {
			wantOrderCode(t, what, got, code)
			continue
		}
		if !hasGrown(was, x) {
			wantOrderCode(t, what, got, impl.ErrState)
			continue
		}
		wantOrder(t, what, got, append(decidedOrder(0, count), x)...)
		wantCode(t, what+": the order then", impl.OrderFault(got.Order), impl.OK)
	}
}

type change struct {
	what   string
	was, x impl.Instance
	code   int64
}

func batchChanges() []change {
	two, board := ownTxns(1, 2), "00. 00."
	otherAct, oneMoreAct := ownTxns(1, 2), ownTxns(1, 2)
	otherAct[1].Acts[0].Value++
	oneMoreAct[0].Acts = append(oneMoreAct[0].Acts, put(1, 1))
	was := boardBy(two, "...", board)
	cases := []change{
		{"the batch as it is", was, was, impl.OK},
		{"no batch any more", was, boardBy(nil, "...", board), impl.ErrState},
		{"a batch where there was none", boardBy(nil, "...", board), was, impl.OK},
		{"no batch, as there was none", boardBy(nil, "...", board), boardBy(nil, "...", board), impl.OK},
	}
	for _, batch := range [][]impl.Txn{two[:1], two[1:], ownTxns(1, 3), ownTxns(0, 3)[1:2], {two[1], two[0]}, ownTxns(7, 2), otherAct, oneMoreAct,
		{two[0], named(9, two[1].Session, two[1].Seq, 2)}, {two[0], named(2, 9, two[1].Seq, 2)}, {two[0], named(2, two[1].Session, 98, 2)}} {
		cases = append(cases, change{fmt.Sprint("the batch ", batch), was, boardBy(batch, "...", board), impl.ErrState})
	}
	return cases
}

func voteChanges() []change {
	one := ownTxns(1, 1)
	by := func(decided string, rounds ...string) impl.Instance { return boardBy(one, decided, rounds...) }
	lost, grown := int64(impl.ErrState), int64(impl.OK)
	return []change{
		{"a report less", by("...", "01. ..."), by("...", "0.. ..."), lost},
		{"the last node's report less", by("...", "0.1 ..."), by("...", "0.. ..."), lost},
		{"a report otherwise", by("...", "01. ..."), by("...", "00. ..."), lost},
		{"a report more", by("...", "0.. ..."), by("...", "01. ..."), grown},
		{"a report of another node instead", by("...", "0.. ..."), by("...", ".0. ..."), lost},
		{"a proposal less", by("...", "110 12."), by("...", "110 1.."), lost},
		{"a proposal otherwise", by("...", "110 12."), by("...", "110 11."), lost},
		{"none instead of a proposal", by("...", "110 1.."), by("...", "110 2.."), lost},
		{"a proposal more", by("...", "110 1.."), by("...", "110 1.2"), grown},
		{"all of a round less", by("...", "01. 22.", "0.. ..."), by("...", "01. 22."), lost},
		{"an open round less", by("...", "01. 22.", "... ..."), by("...", "01. 22."), lost},
		{"an open round less, of four", by("...", "... ...", "... ...", "... ...", "... ..."), by("...", "... ...", "... ...", "... ..."), lost},
		{"a round more", by("...", "01. 22."), by("...", "01. 22.", ".1. ..."), grown},
		{"an open round more", by("...", "01. 22."), by("...", "01. 22.", "... ..."), grown},
		{"three open rounds more", by("...", "... ..."), by("...", "... ...", "... ...", "... ...", "... ..."), grown},
		{"a report of the next round less", by("...", "01. 22.", "01. ..."), by("...", "01. 22.", ".1. ..."), lost},
		{"a report of the next round otherwise", by("...", "01. 22.", "01. ..."), by("...", "01. 22.", "11. ..."), lost},
		{"a proposal of the last round less", by("...", "01. 22.", "01. 22.", "01. 22.", "01. 22."), by("...", "01. 22.", "01. 22.", "01. 22.", "01. 2.."), lost},
		{"what a node decided less", by("1..", "11. 11."), by("...", "11. 11."), lost},
		{"what another node decided instead", by("1..", "11. 11."), by(".1.", "11. 11."), lost},
		{"what the last node decided less", by("111", "11. 11."), by("11.", "11. 11."), lost},
		{"decided more", by("1..", "11. 11."), by("1.1", "11. 11."), grown},
		{"decided first", by("...", "11. 11."), by("..1", "11. 11."), grown},
		{"all otherwise", by("1..", "11. 11."), by("0..", "00. 00."), lost},
		{"all of it and more", by("1..", "110 11.", "1.. ..."), by("111", "110 112", "111 111", "111 111", "111 111"), grown},
		{"more of all but one report less", by("1..", "110 11.", "1.. ..."), by("111", "11. 11.", "11. 11."), lost},
	}
}

func TestChangeLast(t *testing.T) {
	for _, c := range append(batchChanges(), voteChanges()...) {
		wantCode(t, c.what, impl.ChangeLast([]impl.Instance{c.was}, c.x).Code, c.code)
		wantChange(t, c.what, c.was, c.x)
	}
}

func TestChangeLastOfEveryTwoBoards(t *testing.T) {
	boards := slices.Concat(rightBoards(), decidedBoards(), openBoards(), drawnBoards(10))
	for i, was := range boards {
		for j, x := range boards {
			wantChange(t, fmt.Sprint(i, " to ", j), was, x)
		}
	}
}

// Every vote of a board turned: what had voted may not be turned, who had not may vote by the rules.
func TestChangeLastOfEveryTurnedVote(t *testing.T) {
	met := map[int64]int{}
	for i, was := range append(rightBoards(), drawnBoards(10)...) {
		for place := range votePlaces(&was) {
			for vote := range int64(4) {
				x := copied(was).(impl.Instance)
				*votePlaces(&x)[place].vote = vote
				wantChange(t, fmt.Sprint("board ", i, ", place ", place, " to ", vote), was, x)
				met[impl.ChangeLast([]impl.Instance{was}, x).Code]++
			}
		}
	}
	for _, code := range []int64{impl.OK, impl.ErrState, impl.ErrVote, impl.ErrRange} {
		if met[code] < 20 {
			t.Errorf("code %d: too few of %v", code, met)
		}
	}
}

// The InstanceFault of x is told ahead of what it has not.
func TestChangeLastTellsTheInstanceFault(t *testing.T) {
	for _, c := range wrongBoards() {
		for _, was := range []impl.Instance{newBoard(), fullBoard(), takenBoard(ownTxns(1, 1)...)} {
			wantOrderCode(t, c.what, impl.ChangeLast([]impl.Instance{was}, c.x), c.code)
			wantOrderCode(t, c.what+", behind three", impl.ChangeLast(append(decidedOrder(2, 3), was), c.x), c.code)
		}
	}
}

// The last one alone is held against x; those ahead stay as they are, whatever x is.
func TestChangeLastLeavesThoseAhead(t *testing.T) {
	list := append(decidedOrder(0, 2), newBoard())
	x := takenBoard(ownTxns(50, 2)...)
	wantOrder(t, "another batch than those ahead", impl.ChangeLast(list, x), append(decidedOrder(0, 2), x)...)
	wantOrder(t, "what one ahead is", impl.ChangeLast(list, list[0]), append(decidedOrder(0, 2), list[0])...)
	wantOrderCode(t, "what one ahead has not", impl.ChangeLast(decidedOrder(0, 3), list[0]), impl.ErrState)
	wantOrder(t, "an order that is full", impl.ChangeLast(append(decidedOrder(0, 3), newBoard()), x), append(decidedOrder(0, 3), x)...)
}
