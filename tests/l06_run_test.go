package tests

import (
	"fmt"
	"slices"
	"testing"

	"loop.example/g00631/impl"
)

// Promise 7, of whole runs: every choice of nodes, masks and coins, or a drawn part of them.

// move is one step of a run; what it needs not is left out.
type move struct {
	kind                    string
	node, round, mask, coin int64
}

func (m move) made(x impl.Instance) impl.InstanceResult {
	switch m.kind {
	case "batch":
		return impl.SetBatch(x, someTxns(2))
	case "report":
		return impl.FirstReport(x, m.node, m.coin)
	case "propose":
		return impl.Propose(x, m.node, m.round, m.mask)
	}
	return impl.GoOn(x, m.node, m.round, m.mask, m.coin)
}

// byText is what a move has to answer on a right board, by the chapter's words.
func (m move) byText(x impl.Instance) impl.InstanceResult {
	y := cloneBoard(x)
	if m.kind == "batch" {
		if x.Has {
			return impl.InstanceResult{Code: impl.ErrTaken}
		}
		y.Has, y.Batch = true, someTxns(2)
		return impl.InstanceResult{Instance: y}
	}
	if m.node < 0 || m.node > 2 || m.round < 0 || m.round >= int64(len(x.Rounds)) {
		return impl.InstanceResult{Code: impl.ErrRange}
	}
	code, choice := int64(impl.OK), impl.Choice{}
	switch m.kind {
	case "report":
		code = m.reportByText(&y)
	case "propose":
		code = m.proposeByText(&y)
	default:
		code, choice = m.goOnByText(&y)
	}
	if code != impl.OK {
		return impl.InstanceResult{Code: code}
	}
	return impl.InstanceResult{Choice: choice, Instance: y}
}

func (m move) reportByText(y *impl.Instance) int64 {
	vote := &y.Rounds[0].Reports[m.node]
	switch {
	case m.coin != 0 && m.coin != 1:
		return impl.ErrRange
	case *vote != open:
		return impl.ErrTaken
	case m.coin == 1 && !y.Has:
		return impl.ErrVote
	}
	*vote = m.coin
	return impl.OK
}

func (m move) proposeByText(y *impl.Instance) int64 {
	round := y.Rounds[m.round]
	if round.Props[m.node] != open {
		return impl.ErrTaken
	}
	if round.Reports[m.node] == open {
		return impl.ErrState
	}
	prop := proposalByText(round.Reports, m.mask)
	if prop.Code == impl.OK {
		round.Props[m.node] = prop.Value
	}
	return prop.Code
}

func (m move) goOnByText(y *impl.Instance) (int64, impl.Choice) {
	props, coin := y.Rounds[m.round].Props, m.coin
	if props[m.node] == open {
		return impl.ErrState, impl.Choice{}
	}
	if coin == 1 && !y.Has {
		coin = 0
	}
	choice := choiceByText(props, m.mask, coin)
	if choice.Code != impl.OK {
		return choice.Code, impl.Choice{}
	}
	if choice.Decided {
		y.Decided[m.node] = choice.Value
	}
	if m.round == 3 {
		return impl.OK, choice
	}
	if int64(len(y.Rounds)) == m.round+1 {
		y.Rounds = append(y.Rounds, impl.Round{Reports: rowBy("..."), Props: rowBy("...")})
	}
	next := y.Rounds[m.round+1].Reports
	if next[m.node] != open {
		return impl.ErrTaken, impl.Choice{}
	}
	next[m.node] = choice.Value
	return impl.OK, choice
}

// cloneBoard leaves the batch, which no move of byText writes to.
func cloneBoard(x impl.Instance) impl.Instance {
	x.Decided, x.Rounds = slices.Clone(x.Decided), slices.Clone(x.Rounds)
	for i, round := range x.Rounds {
		x.Rounds[i] = impl.Round{Reports: slices.Clone(round.Reports), Props: slices.Clone(round.Props)}
	}
	return x
}

// movesAmong are all moves with these numbers; in rounds that are not told nobody goes on.
func movesAmong(nodes, rounds, going, maskList, coins []int64) []move {
	moves := []move{{kind: "batch"}}
	for _, node := range nodes {
		for _, coin := range coins {
			moves = append(moves, move{kind: "report", node: node, coin: coin})
		}
		for _, mask := range maskList {
			for _, round := range rounds {
				moves = append(moves, move{kind: "propose", node: node, round: round, mask: mask})
			}
			for _, round := range going {
				for _, coin := range coins {
					moves = append(moves, move{kind: "go on", node: node, round: round, mask: mask, coin: coin})
				}
			}
		}
	}
	return moves
}

// wantAgreed: no two nodes decided otherwise, and what was decided was offered.
func wantAgreed(t *testing.T, what string, x impl.Instance) {
	t.Helper()
	if countIn(x.Decided, 0) > 0 && countIn(x.Decided, 1) > 0 {
		t.Errorf("%s: decided otherwise: %+v", what, x)
	}
	if countIn(x.Decided, 1) > 0 && (!x.Has || len(x.Batch) == 0) {
		t.Errorf("%s: decided what was not offered: %+v", what, x)
	}
	for value := range int64(2) {
		if countIn(x.Rounds[0].Reports, value) == 3 && countIn(x.Decided, 1-value) > 0 {
			t.Errorf("%s: decided what nobody reported first: %+v", what, x)
		}
	}
}

func staysIn(before, after []int64) bool {
	for i, vote := range before {
		if vote != open && after[i] != vote {
			return false
		}
	}
	return true
}

// wantStays: what was said and decided on the board is there as it was.
func wantStays(t *testing.T, what string, before, after impl.Instance) {
	t.Helper()
	stays := staysIn(before.Decided, after.Decided) && len(after.Rounds) >= len(before.Rounds) && (!before.Has || after.Has && impl.SameTxns(before.Batch, after.Batch))
	for r := 0; stays && r < len(before.Rounds); r++ {
		stays = staysIn(before.Rounds[r].Reports, after.Rounds[r].Reports) && staysIn(before.Rounds[r].Props, after.Rounds[r].Props)
	}
	if !stays {
		t.Errorf("%s: %+v went to %+v", what, before, after)
	}
	if outcome := impl.OutcomeOf(before); outcome.Code == impl.OK {
		wantInt(t, what+": the outcome behind it", impl.OutcomeOf(after), outcome.Value)
	}
}

// wantMove makes a move and asks all that is promised of it.
func wantMove(t *testing.T, x impl.Instance, m move) impl.InstanceResult {
	t.Helper()
	what := fmt.Sprintf("%+v", m)
	got := m.made(x)
	wantResult(t, what, got, m.byText(x))
	if got.Code == impl.OK {
		wantCode(t, what+": the board behind it", impl.InstanceFault(got.Instance), impl.OK)
		wantAgreed(t, what, got.Instance)
		wantStays(t, what, x, got.Instance)
	}
	return got
}

func keyOf(x impl.Instance) string {
	key := []byte{byte(len(x.Batch))}
	for _, round := range x.Rounds {
		for n := range round.Reports {
			key = append(key, byte(round.Reports[n]), byte(round.Props[n]))
		}
	}
	for _, value := range x.Decided {
		key = append(key, byte(value))
	}
	return string(key)
}

// reachedFrom makes every move on every board that is come to, and tells these boards.
func reachedFrom(t *testing.T, start impl.Instance, moves []move) []impl.Instance {
	t.Helper()
	seen := map[string]bool{keyOf(start): true}
	boards := []impl.Instance{start}
	for at := 0; at < len(boards) && !t.Failed(); at++ {
		for _, m := range moves {
			got := wantMove(t, boards[at], m)
			if got.Code == impl.OK && !seen[keyOf(got.Instance)] {
				seen[keyOf(got.Instance)] = true
				boards = append(boards, got.Instance)
			}
		}
	}
	return boards
}

// wantOutcomes: there are at least so many boards, and of each outcome some.
func wantOutcomes(t *testing.T, boards []impl.Instance, least int, outcomes ...int64) {
	t.Helper()
	met := map[int64]int{}
	for _, x := range boards {
		outcome := impl.OutcomeOf(x)
		if outcome.Code != impl.OK {
			outcome.Value = open
		}
		met[outcome.Value]++
	}
	for _, value := range append(outcomes, open) {
		if met[value] == 0 {
			t.Errorf("no board with the outcome %d", value)
		}
	}
	if len(boards) < least || len(met) != len(outcomes)+1 {
		t.Errorf("%d boards, outcomes %v", len(boards), met)
	}
}

var nodes, quorums, twoCoins = []int64{0, 1, 2}, []int64{3, 5, 6, 7}, []int64{0, 1}

// Without a batch all four rounds are gone through, by every choice; a batch that comes never.
func TestEveryRunWithoutABatch(t *testing.T) {
	moves := movesAmong(nodes, []int64{0, 1, 2, 3}, []int64{0, 1, 2, 3}, quorums, twoCoins)[1:]
	wantOutcomes(t, reachedFrom(t, newBoard(), moves), 309, 0)
}

// With a batch, set at any time, every choice in two rounds.
func TestEveryRunOfTwoRounds(t *testing.T) {
	moves := movesAmong(nodes, []int64{0, 1}, []int64{0}, quorums, twoCoins)
	wantOutcomes(t, reachedFrom(t, newBoard(), moves), 8985, 0, 1)
}

// Every choice in the last two rounds, behind two that agreed on nothing.
func TestEveryRunOfTheLastRounds(t *testing.T) {
	moves := movesAmong(nodes, []int64{3}, []int64{2, 3}, quorums, twoCoins)
	for _, third := range []string{"010 222", "110 122"} {
		start := boardBy(someTxns(1), "...", "010 222", "010 222", third)
		wantOutcomes(t, reachedFrom(t, start, moves), 400, 0, 1)
	}
}

// drawn is always the same run of numbers.
type drawn uint32

func (d *drawn) below(n int) int {
	*d = *d*1664525 + 1013904223
	return int(*d>>8) % n
}

func (d *drawn) from(list []int64) int64 { return list[d.below(len(list))] }

// moveOn draws among the last rounds mostly, so that runs come to an end.
func (d *drawn) moveOn(x impl.Instance) move {
	m := move{kind: []string{"batch", "report", "report", "propose", "propose", "propose", "go on", "go on", "go on"}[d.below(9)], node: d.from(nodes)}
	m.mask, m.coin = d.from(quorums), d.from(twoCoins)
	if m.kind == "propose" || m.kind == "go on" {
		m.round = int64(max(0, len(x.Rounds)-1-d.below(3)))
	}
	return m
}

// drawnRun tells its boards to see, from the first one on.
func drawnRun(seed int, see func(before impl.Instance, m move) impl.InstanceResult) impl.Instance {
	d := drawn(seed)
	x := impl.NewInstance().Instance
	for range 200 {
		if got := see(x, d.moveOn(x)); got.Code == impl.OK {
			x = got.Instance
		}
	}
	return x
}

func drawnBoards(count int) []impl.Instance {
	var boards []impl.Instance
	for seed := range count {
		boards = append(boards, drawnRun(seed, func(x impl.Instance, m move) impl.InstanceResult { return m.made(x) }))
	}
	return boards
}

func TestDrawnRunsOfAllRounds(t *testing.T) {
	ends := map[string]int{}
	for seed := range 400 {
		x := drawnRun(seed, func(x impl.Instance, m move) impl.InstanceResult { return wantMove(t, x, m) })
		ends[fmt.Sprint(len(x.Rounds), " rounds, ", impl.OutcomeOf(x))]++
	}
	for _, end := range []string{"4 rounds, {0 0}", "4 rounds, {0 1}"} {
		if ends[end] < 20 {
			t.Errorf("%s: too few of %v", end, ends)
		}
	}
}

// Numbers that are right and wrong, in every move, on boards of all kinds.
func TestEveryMoveWithEveryNumber(t *testing.T) {
	rounds := []int64{-1, 0, 1, 2, 3, 4, 1 << 32, -1 << 32}
	moves := movesAmong([]int64{-1, 0, 1, 2, 3, 1 << 32}, rounds, rounds, []int64{-1, 0, 1, 2, 3, 4, 5, 6, 7, 8}, []int64{-1, 0, 1, 2})
	for _, x := range append(rightBoards(), drawnBoards(30)...) {
		for _, m := range moves {
			wantMove(t, x, m)
		}
	}
}
