package tests

import (
	"fmt"
	"math"
	"strings"
	"testing"

	"loop.example/g00631/impl"
)

// Promise 6: any two quorums have a node in common; whoever is heard, 0 and 1 are not both proposed by one row of reports, and what a quorum proposed is what everybody goes on with. Here: what is told of votes that a mask has heard.

const open = impl.VoteOpen
const none = impl.VoteNone

func votes(list ...int64) []int64 { return list }

// nodesOf tells each mask by its nodes.
var nodesOf = [8][]int{{}, {0}, {1}, {0, 1}, {2}, {0, 2}, {1, 2}, {0, 1, 2}}

var wrongMasks = []int64{-1, 8, -8, 11, 256 + 3, 1<<32 + 7, math.MinInt64, math.MinInt64 + 7, math.MaxInt64}
var wrongCoins = []int64{-1, 2, 3, 256, 257, 1 << 32, 1<<32 + 1, math.MinInt64, math.MaxInt64}
var wrongVotes = []int64{-1, 4, 256, 257, 1 << 32, 1<<32 + 1, math.MinInt64, math.MaxInt64}

// masks are all from -1 to 8, and some that are far off.
func masks() []int64 {
	all := append([]int64{}, wrongMasks...)
	for mask := range int64(8) {
		all = append(all, mask)
	}
	return all
}

func rowsOf(values ...int64) [][]int64 {
	var rows [][]int64
	for _, a := range values {
		for _, b := range values {
			for _, c := range values {
				rows = append(rows, votes(a, b, c))
			}
		}
	}
	return rows
}

func reportRows() [][]int64 { return rowsOf(0, 1, open) }
func propRows() [][]int64   { return rowsOf(0, 1, none, open) }

// spoken tells the votes of a mask's nodes by a text, a digit for each one, so that what the program answers can be held against what stands there.
func spoken(row []int64, mask int64) string {
	if mask < 0 || mask > 7 {
		return ""
	}
	var text strings.Builder
	for _, node := range nodesOf[mask] {
		fmt.Fprint(&text, row[node])
	}
	return text.String()
}

func isHeardIn(text string) bool { return len(text) >= 2 && !strings.Contains(text, "3") }

func proposalByText(row []int64, mask int64) impl.IntResult {
	text := spoken(row, mask)
	switch {
	case !isHeardIn(text):
		return impl.IntResult{Code: impl.ErrVote}
	case strings.Count(text, "0") > 1:
		return impl.IntResult{Value: 0}
	case strings.Count(text, "1") > 1:
		return impl.IntResult{Value: 1}
	}
	return impl.IntResult{Value: none}
}

func choiceByText(row []int64, mask int64, coin int64) impl.Choice {
	whole, text := spoken(row, 7), spoken(row, mask)
	switch {
	case coin != 0 && coin != 1:
		return impl.Choice{Code: impl.ErrRange}
	case strings.Contains(whole, "0") && strings.Contains(whole, "1"):
		return impl.Choice{Code: impl.ErrForm}
	case !isHeardIn(text):
		return impl.Choice{Code: impl.ErrVote}
	case strings.Contains(text, "0"):
		return impl.Choice{Decided: strings.Count(text, "0") > 1, Value: 0}
	case strings.Contains(text, "1"):
		return impl.Choice{Decided: strings.Count(text, "1") > 1, Value: 1}
	}
	return impl.Choice{Coin: true, Value: coin}
}

func wantBool(t *testing.T, what string, got, want bool) {
	t.Helper()
	if got != want {
		t.Errorf("%s: got %v, want %v", what, got, want)
	}
}

func wantChoice(t *testing.T, what string, got, want impl.Choice) {
	t.Helper()
	if got != want {
		t.Errorf("%s: got %+v, want %+v", what, got, want)
	}
}

func TestIsQuorum(t *testing.T) {
	for mask, want := range []bool{false, false, false, true, false, true, true, true} {
		wantBool(t, fmt.Sprint("mask ", mask), impl.IsQuorum(int64(mask)), want)
	}
	for _, mask := range wrongMasks {
		wantBool(t, fmt.Sprint("mask ", mask), impl.IsQuorum(mask), false)
	}
}

func TestRuleConstants(t *testing.T) {
	if impl.MaxNodes != 3 || impl.Quorum != 2 || impl.VoteNone != 2 || impl.VoteOpen != 3 {
		t.Error("a constant is not what the document says")
	}
}

type faultyVotes struct {
	what  string
	votes []int64
	most  int64
	code  int64
}

func voteValueCases() []faultyVotes {
	var cases []faultyVotes
	lay := func(vote, most, code int64) {
		for at := range 3 {
			row := votes(0, open, 1)
			row[at] = vote
			cases = append(cases, faultyVotes{fmt.Sprint(row, " by ", most), row, most, code})
		}
	}
	for most := int64(1); most <= 2; most++ {
		for _, vote := range wrongVotes {
			lay(vote, most, impl.ErrRange)
		}
		for _, vote := range votes(0, 1, open) {
			lay(vote, most, impl.OK)
		}
	}
	lay(none, 1, impl.ErrRange)
	lay(none, 2, impl.OK)
	return cases
}

func voteCountCases() []faultyVotes {
	var cases []faultyVotes
	for most := int64(1); most <= 2; most++ {
		for _, count := range []int{0, 1, 2, 4, 5, 256 + 3, 300} {
			cases = append(cases, faultyVotes{fmt.Sprint(count, " votes by ", most), make([]int64, count), most, impl.ErrMany})
		}
		cases = append(cases, faultyVotes{fmt.Sprint("nil by ", most), nil, most, impl.ErrMany})
	}
	return cases
}

// voteOrderCases have several faults each; the first one that is asked is the answer.
func voteOrderCases() []faultyVotes {
	cases := []faultyVotes{
		{"two, one wrong", votes(4, 0), 1, impl.ErrMany},
		{"two, both wrong", votes(-1, 4), 2, impl.ErrMany},
		{"four, the first one wrong", votes(-1, 0, 0, 0), 2, impl.ErrMany},
		{"four, the last one wrong", votes(0, 0, 0, 4), 2, impl.ErrMany},
		{"four, a VoteNone of reports", votes(none, 0, 0, 0), 1, impl.ErrMany},
	}
	for _, most := range []int64{-1, 0, 3, 4, 256 + 1, 1<<32 + 2, math.MinInt64, math.MaxInt64} {
		for _, row := range [][]int64{nil, {}, votes(0, 1), votes(0, 1, open), votes(open, open, open), votes(0, 1, none), votes(0, 0, 4), votes(0, 0, 0, 0)} {
			cases = append(cases, faultyVotes{fmt.Sprint(row, " by ", most), row, most, impl.ErrRange})
		}
	}
	return cases
}

func TestVotesFault(t *testing.T) {
	for _, list := range [][]faultyVotes{voteValueCases(), voteCountCases(), voteOrderCases()} {
		for _, c := range list {
			wantCode(t, c.what, impl.VotesFault(c.votes, c.most), c.code)
		}
	}
	for _, row := range reportRows() {
		wantCode(t, fmt.Sprint(row, " as reports"), impl.VotesFault(row, 1), impl.OK)
	}
	for _, row := range propRows() {
		wantCode(t, fmt.Sprint(row, " as proposals"), impl.VotesFault(row, 2), impl.OK)
	}
}

// faultsBy are rows with a fault, by what they would be.
func faultsBy(most int64) []faultyVotes {
	var faults []faultyVotes
	for _, list := range [][]faultyVotes{voteValueCases(), voteCountCases(), voteOrderCases()} {
		for _, c := range list {
			if c.most == most && c.code != impl.OK {
				faults = append(faults, c)
			}
		}
	}
	return faults
}

func TestCountVotes(t *testing.T) {
	for _, row := range propRows() {
		for mask := range int64(8) {
			for value := range int64(4) {
				want := strings.Count(spoken(row, mask), fmt.Sprint(value))
				wantInt(t, fmt.Sprint(value, " in ", row, " by ", mask), impl.CountVotes(row, mask, value), int64(want))
			}
		}
	}
	wantInt(t, "of nobody", impl.CountVotes(votes(1, 1, 1), 0, 1), 0)
	wantInt(t, "who has not voted", impl.CountVotes(votes(open, 1, open), 7, open), 2)
	wantInt(t, "a node beside the mask", impl.CountVotes(votes(1, 1, 0), 6, 1), 1)
}

func TestCountVotesCodes(t *testing.T) {
	for _, row := range propRows() {
		for _, mask := range wrongMasks {
			wantIntCode(t, fmt.Sprint(row, " by ", mask), impl.CountVotes(row, mask, 0), impl.ErrRange)
		}
		for _, value := range wrongVotes {
			wantIntCode(t, fmt.Sprint(value, " in ", row), impl.CountVotes(row, 7, value), impl.ErrRange)
			wantIntCode(t, fmt.Sprint(value, " in ", row, " by none"), impl.CountVotes(row, 0, value), impl.ErrRange)
		}
	}
	for _, c := range faultsBy(2) {
		wantIntCode(t, c.what, impl.CountVotes(c.votes, 7, 0), c.code)
		wantIntCode(t, c.what+", no mask", impl.CountVotes(c.votes, 8, 0), c.code)
		wantIntCode(t, c.what+", no value", impl.CountVotes(c.votes, 7, 4), c.code)
		wantIntCode(t, c.what+", neither of them", impl.CountVotes(c.votes, -1, -1), c.code)
	}
}

func TestProposalFor(t *testing.T) {
	wantInt(t, "1, 1, 0 by all", impl.ProposalFor(votes(1, 1, 0), 7), 1)
	wantInt(t, "1, 1, 0 by 6", impl.ProposalFor(votes(1, 1, 0), 6), none)
	wantInt(t, "all 0", impl.ProposalFor(votes(0, 0, 0), 7), 0)
	wantInt(t, "two of three 0", impl.ProposalFor(votes(0, 1, 0), 7), 0)
	wantInt(t, "who has not voted stands beside it", impl.ProposalFor(votes(open, 1, 1), 6), 1)
	wantIntCode(t, "one of it has not voted", impl.ProposalFor(votes(1, 1, open), 7), impl.ErrVote)
	wantIntCode(t, "one node alone", impl.ProposalFor(votes(1, 1, 1), 4), impl.ErrVote)
	for _, row := range reportRows() {
		for _, mask := range masks() {
			got, want := impl.ProposalFor(row, mask), proposalByText(row, mask)
			if got != want {
				t.Errorf("%v by %d: got %v, want %v", row, mask, got, want)
			}
		}
	}
}

// A fault of the reports is told ahead of a mask that was not heard.
func TestProposalForTellsFaultsFirst(t *testing.T) {
	for _, c := range faultsBy(1) {
		for _, mask := range masks() {
			wantIntCode(t, fmt.Sprint(c.what, ", mask ", mask), impl.ProposalFor(c.votes, mask), c.code)
		}
	}
	wantIntCode(t, "a VoteNone beside the mask", impl.ProposalFor(votes(none, 1, 1), 6), impl.ErrRange)
}

func TestChoiceFor(t *testing.T) {
	wantChoice(t, "a quorum proposed 1", impl.ChoiceFor(votes(1, 1, none), 7, 0), impl.Choice{Decided: true, Value: 1})
	wantChoice(t, "a quorum proposed 0", impl.ChoiceFor(votes(none, 0, 0), 6, 1), impl.Choice{Decided: true, Value: 0})
	wantChoice(t, "one of it is heard", impl.ChoiceFor(votes(0, 0, none), 6, 1), impl.Choice{Value: 0})
	wantChoice(t, "one proposed 1", impl.ChoiceFor(votes(1, none, none), 3, 0), impl.Choice{Value: 1})
	wantChoice(t, "who proposed is not heard", impl.ChoiceFor(votes(1, none, none), 6, 0), impl.Choice{Coin: true, Value: 0})
	wantChoice(t, "the other coin", impl.ChoiceFor(votes(0, none, none), 6, 1), impl.Choice{Coin: true, Value: 1})
	wantChoice(t, "who has not voted stands beside it", impl.ChoiceFor(votes(none, open, none), 5, 1), impl.Choice{Coin: true, Value: 1})
	wantChoice(t, "one of it has not voted", impl.ChoiceFor(votes(1, 1, open), 7, 1), impl.Choice{Code: impl.ErrVote})
	wantChoice(t, "one node alone", impl.ChoiceFor(votes(1, 1, 1), 1, 1), impl.Choice{Code: impl.ErrVote})
	wantChoice(t, "both, though one alone is heard", impl.ChoiceFor(votes(0, 1, none), 5, 0), impl.Choice{Code: impl.ErrForm})
	for _, row := range propRows() {
		for _, mask := range masks() {
			for _, coin := range append(wrongCoins, 0, 1) {
				got := impl.ChoiceFor(row, mask, coin)
				wantChoice(t, fmt.Sprint(row, " by ", mask, " with ", coin), got, choiceByText(row, mask, coin))
			}
		}
	}
}

func TestChoiceForTellsFaultsFirst(t *testing.T) {
	for _, c := range faultsBy(2) {
		for _, mask := range masks() {
			for _, coin := range append(wrongCoins, 0, 1) {
				got := impl.ChoiceFor(c.votes, mask, coin)
				wantChoice(t, fmt.Sprint(c.what, ", mask ", mask, ", coin ", coin), got, impl.Choice{Code: c.code})
			}
		}
	}
}

// Which of the codes behind VotesFault is told where several are so.
func TestChoiceForOrderOfCodes(t *testing.T) {
	both, lone := votes(0, 1, open), votes(1, open, open)
	wantChoice(t, "coin, both and not heard", impl.ChoiceFor(both, 7, 2), impl.Choice{Code: impl.ErrRange})
	wantChoice(t, "coin and both", impl.ChoiceFor(both, 3, -1), impl.Choice{Code: impl.ErrRange})
	wantChoice(t, "coin and not heard", impl.ChoiceFor(lone, 3, 2), impl.Choice{Code: impl.ErrRange})
	wantChoice(t, "coin and no mask", impl.ChoiceFor(lone, 8, 2), impl.Choice{Code: impl.ErrRange})
	wantChoice(t, "both and not heard", impl.ChoiceFor(both, 7, 1), impl.Choice{Code: impl.ErrForm})
	wantChoice(t, "both and no quorum", impl.ChoiceFor(both, 1, 0), impl.Choice{Code: impl.ErrForm})
	wantChoice(t, "both and no mask", impl.ChoiceFor(both, -1, 0), impl.Choice{Code: impl.ErrForm})
	wantChoice(t, "a coin that nobody asks for", impl.ChoiceFor(votes(1, 1, 1), 7, 2), impl.Choice{Code: impl.ErrRange})
	wantChoice(t, "one beside a Value of one node", impl.ChoiceFor(votes(0, none, open), 3, -1), impl.Choice{Code: impl.ErrRange})
}
