package tests

import (
	"fmt"
	"testing"

	"loop.example/g00631/impl"
)

// Promise 6, of what may be said by anybody: MayPropose, MayReport, and what holds whoever is heard.

func countIn(row []int64, value int64) int {
	count := 0
	for _, vote := range row {
		if vote == value {
			count++
		}
	}
	return count
}

// mayProposeByCounts needs no masks: two that reported a value are heard alone, and two that reported otherwise too.
func mayProposeByCounts(row []int64, value int64) bool {
	switch value {
	case 0, 1:
		return countIn(row, value) >= 2
	case none:
		return countIn(row, 0) >= 1 && countIn(row, 1) >= 1
	}
	return false
}

// mayReportByCounts needs no masks: who proposed a value is heard with any other one, and a coin falls where two have proposed none.
func mayReportByCounts(row []int64, value int64) bool {
	if value != 0 && value != 1 || countIn(row, 1-value) > 0 && countIn(row, value) > 0 {
		return false
	}
	return countIn(row, value) >= 1 && countIn(row, open) <= 1 || countIn(row, none) >= 2
}

func TestMayPropose(t *testing.T) {
	wantBool(t, "two 1", impl.MayPropose(votes(1, 1, open), 1), true)
	wantBool(t, "a mask that hears both", impl.MayPropose(votes(1, 1, 0), none), true)
	wantBool(t, "one alone", impl.MayPropose(votes(1, 1, 0), 0), false)
	wantBool(t, "nobody voted: a code has no Value 0", impl.MayPropose(votes(open, open, open), 0), false)
	wantBool(t, "one voted", impl.MayPropose(votes(0, open, open), 0), false)
	wantBool(t, "all alike", impl.MayPropose(votes(0, 0, 0), none), false)
	for _, row := range reportRows() {
		for _, value := range append(wrongVotes, 0, 1, none, open) {
			wantBool(t, fmt.Sprint(value, " by ", row), impl.MayPropose(row, value), mayProposeByCounts(row, value))
		}
	}
}

func TestMayReport(t *testing.T) {
	wantBool(t, "a quorum proposed 1", impl.MayReport(votes(1, 1, none), 1), true)
	wantBool(t, "the other value then", impl.MayReport(votes(1, 1, none), 0), false)
	wantBool(t, "a coin of two", impl.MayReport(votes(1, none, none), 0), true)
	wantBool(t, "one proposed, one has not voted", impl.MayReport(votes(1, none, open), 0), false)
	wantBool(t, "both were proposed", impl.MayReport(votes(0, 1, none), 0), false)
	wantBool(t, "nobody voted: a code has no Value 0", impl.MayReport(votes(open, open, open), 0), false)
	wantBool(t, "VoteNone is none", impl.MayReport(votes(none, none, none), none), false)
	for _, row := range propRows() {
		for _, value := range append(wrongVotes, 0, 1, none, open) {
			wantBool(t, fmt.Sprint(value, " by ", row), impl.MayReport(row, value), mayReportByCounts(row, value))
		}
	}
}

func TestNothingMayBeSaidByFaults(t *testing.T) {
	values := append(wrongVotes, 0, 1, none, open)
	for _, c := range faultsBy(1) {
		for _, value := range values {
			wantBool(t, fmt.Sprint(value, ": ", c.what), impl.MayPropose(c.votes, value), false)
		}
	}
	for _, c := range faultsBy(2) {
		for _, value := range values {
			wantBool(t, fmt.Sprint(value, ": ", c.what), impl.MayReport(c.votes, value), false)
		}
	}
	wantBool(t, "a VoteNone among reports", impl.MayPropose(votes(1, 1, none), 1), false)
}

// What may be said is what some mask says, and nothing else.
func TestMayIsForSomeMask(t *testing.T) {
	for _, row := range reportRows() {
		said := map[int64]bool{}
		for _, mask := range masks() {
			if p := impl.ProposalFor(row, mask); p.Code == impl.OK {
				said[p.Value] = true
			}
		}
		for value := range int64(4) {
			wantBool(t, fmt.Sprint("proposing ", value, " by ", row), impl.MayPropose(row, value), said[value])
		}
	}
	for _, row := range propRows() {
		said := map[int64]bool{}
		for _, mask := range masks() {
			for coin := range int64(2) {
				if c := impl.ChoiceFor(row, mask, coin); c.Code == impl.OK {
					said[c.Value] = true
				}
			}
		}
		for value := range int64(4) {
			wantBool(t, fmt.Sprint("reporting ", value, " by ", row), impl.MayReport(row, value), said[value])
		}
	}
}

func TestAnyTwoQuorumsHaveANodeInCommon(t *testing.T) {
	quorums := 0
	for _, a := range masks() {
		for _, b := range masks() {
			if impl.IsQuorum(a) && impl.IsQuorum(b) {
				quorums++
				if common := impl.CountVotes(votes(1, 1, 1), a&b, 1); common.Code != impl.OK || common.Value < 1 {
					t.Errorf("%d and %d: %v in common", a, b, common)
				}
			}
		}
	}
	if quorums != 16 {
		t.Errorf("%d pairs of quorums, want 16", quorums)
	}
}

// rowsSaidBy are all rows of proposals that nodes can come to by one row of reports, each one by a mask of its own, or open.
func rowsSaidBy(reports []int64) [][]int64 {
	said := votes(open)
	for mask := range int64(8) {
		if p := impl.ProposalFor(reports, mask); p.Code == impl.OK {
			said = append(said, p.Value)
		}
	}
	return rowsOf(said...)
}

func TestNoReportsLetBothBeProposed(t *testing.T) {
	rows := 0
	for _, reports := range reportRows() {
		if impl.MayPropose(reports, 0) && impl.MayPropose(reports, 1) {
			t.Errorf("both may be proposed by %v", reports)
		}
		for _, props := range rowsSaidBy(reports) {
			rows++
			if zeros, ones := impl.CountVotes(props, 7, 0), impl.CountVotes(props, 7, 1); zeros.Value > 0 && ones.Value > 0 {
				t.Errorf("%v: %v was proposed", reports, props)
			}
			if got := impl.ChoiceFor(props, 7, 1); got.Code == impl.ErrForm {
				t.Errorf("%v: no choice for %v", reports, props)
			}
		}
	}
	if rows < 1000 {
		t.Errorf("%d rows were said, too few to tell", rows)
	}
}

// What a quorum proposed is gone on with by whoever is heard, and by no coin; where one decides, nobody goes on otherwise.
func TestWhatAQuorumProposedIsGoneOnWith(t *testing.T) {
	for value := range int64(2) {
		for _, props := range rowsOf(value, none, open) {
			byQuorum := impl.CountVotes(props, 7, value).Value >= impl.Quorum
			for _, mask := range masks() {
				for coin := range int64(2) {
					choice := impl.ChoiceFor(props, mask, coin)
					if byQuorum && choice.Code == impl.OK && (choice.Value != value || choice.Coin) {
						t.Errorf("%v by %d with %d: %+v", props, mask, coin, choice)
					}
					if choice.Decided && (!byQuorum || impl.MayReport(props, 1-value)) {
						t.Errorf("%v by %d with %d: %+v, but others may go on otherwise", props, mask, coin, choice)
					}
				}
			}
			if byQuorum {
				wantBool(t, fmt.Sprint("the other value by ", props), impl.MayReport(props, 1-value), false)
				wantBool(t, fmt.Sprint(value, " by ", props), impl.MayReport(props, value), true)
			}
		}
	}
}
