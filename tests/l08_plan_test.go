package tests

import (
	"fmt"
	"reflect"
	"slices"
	"testing"

	"loop.example/g00631/impl"
)

// Promise 9: what was guessed right stays, what was not is done anew, and nothing is lost.

func plan(commit, back int64, again, keep []impl.Txn) impl.Plan {
	return impl.Plan{Commit: commit, Back: back, Again: again, Keep: keep}
}

func TestPlanOfByHand(t *testing.T) {
	a, b, c, d := named(1, 1, 1, 1), named(2, 1, 2, 2), named(3, 2, 1, 3), named(4, 2, 2, 4)
	otherId, otherActs, onlyId := named(9, 1, 2, 2), named(2, 1, 2, 99), named(2, 7, 7, 2)
	cases := []struct {
		what        string
		tent, fresh []impl.Txn
		want        impl.Plan
	}{
		{"nothing at all", nil, nil, plan(0, 0, nil, nil)},
		{"nothing comes", []impl.Txn{a, b}, nil, plan(0, 0, nil, []impl.Txn{a, b})},
		{"nothing was guessed", nil, []impl.Txn{a, b}, plan(0, 0, []impl.Txn{a, b}, nil)},
		{"all guessed, as long", []impl.Txn{a, b}, []impl.Txn{a, b}, plan(2, 0, nil, nil)},
		{"all guessed, longer", []impl.Txn{a, b, c, d}, []impl.Txn{a, b}, plan(2, 0, nil, []impl.Txn{c, d})},
		{"one guessed, much longer", []impl.Txn{d, c, b, a}, []impl.Txn{d}, plan(1, 0, nil, []impl.Txn{c, b, a})},
		{"too few guessed", []impl.Txn{a}, []impl.Txn{a, b, c}, plan(1, 0, []impl.Txn{b, c}, nil)},
		{"nothing guessed right", []impl.Txn{a, b}, []impl.Txn{c, d}, plan(0, 2, []impl.Txn{c, d}, []impl.Txn{a, b})},
		{"right up to a place, otherwise behind it", []impl.Txn{a, b, c}, []impl.Txn{a, d}, plan(1, 2, []impl.Txn{d}, []impl.Txn{b, c})},
		{"wrong at the last one", []impl.Txn{a, b, c}, []impl.Txn{a, b, d}, plan(2, 1, []impl.Txn{d}, []impl.Txn{c})},
		{"another order", []impl.Txn{a, b}, []impl.Txn{b, a}, plan(0, 2, []impl.Txn{b, a}, nil)},
		{"another order, and more", []impl.Txn{a, b, c, d}, []impl.Txn{a, c, b}, plan(1, 3, []impl.Txn{c, b}, []impl.Txn{d})},
		{"one left out", []impl.Txn{a, b, c}, []impl.Txn{a, c}, plan(1, 2, []impl.Txn{c}, []impl.Txn{b})},
		{"one comes ahead", []impl.Txn{a, b}, []impl.Txn{d, a, b}, plan(0, 2, []impl.Txn{d, a, b}, nil)},
		{"one comes between", []impl.Txn{a, b}, []impl.Txn{a, d, b}, plan(1, 1, []impl.Txn{d, b}, nil)},
		{"under another Id", []impl.Txn{a, b, c}, []impl.Txn{a, otherId}, plan(1, 2, []impl.Txn{otherId}, []impl.Txn{c})},
		{"under another Id, behind", []impl.Txn{a, b, c}, []impl.Txn{c, otherId}, plan(0, 3, []impl.Txn{c, otherId}, []impl.Txn{a})},
		{"with other acts", []impl.Txn{a, b, c}, []impl.Txn{a, otherActs}, plan(1, 2, []impl.Txn{otherActs}, []impl.Txn{c})},
		{"its Id for another request", []impl.Txn{a, b, c}, []impl.Txn{onlyId}, plan(0, 3, []impl.Txn{onlyId}, []impl.Txn{a, c})},
		{"two by one", []impl.Txn{d, a, b}, []impl.Txn{named(1, 1, 2, 5)}, plan(0, 3, []impl.Txn{named(1, 1, 2, 5)}, []impl.Txn{d})},
	}
	for _, c := range cases {
		wantPlan(t, c.what, impl.PlanOf(c.tent, c.fresh), c.want)
		wantPromised(t, c.what, c.tent, c.fresh)
	}
}

// planByPairs tells PlanOf lists without a fault by the words of the document.
func planByPairs(tent, fresh []impl.Txn) impl.Plan {
	commit := 0
	for commit < len(tent) && commit < len(fresh) && reflect.DeepEqual(tent[commit], fresh[commit]) {
		commit++
	}
	if commit == len(fresh) {
		return plan(int64(commit), 0, nil, tent[commit:])
	}
	return plan(int64(commit), int64(len(tent)-commit), fresh[commit:], withoutByPairs(tent[commit:], fresh))
}

func isAmong(list []impl.Txn, txn impl.Txn) bool {
	return slices.ContainsFunc(list, func(other impl.Txn) bool { return standsFor(other, txn) })
}

// wantPromised asks of a plan all that is promised of it.
func wantPromised(t *testing.T, what string, tent, fresh []impl.Txn) {
	t.Helper()
	got := impl.PlanOf(tent, fresh)
	wantPlan(t, what, got, planByPairs(tent, fresh))
	if isGuessed := len(fresh) <= len(tent) && impl.IsPrefix(fresh, tent); isGuessed {
		if got.Back != 0 || len(got.Again) != 0 || got.Commit != int64(len(fresh)) || got.Commit+int64(len(got.Keep)) != int64(len(tent)) {
			t.Errorf("%s: all was guessed, but the plan is %+v", what, got)
		}
	} else if got.Commit+got.Back != int64(len(tent)) || len(got.Again) == 0 {
		t.Errorf("%s: something is done anew, but the plan is %+v", what, got)
	}
	wantSame(t, what+": what comes of fresh", append(slices.Clone(tent[:got.Commit]), got.Again...), fresh, true)
	for _, txn := range tent {
		if isAmong(fresh, txn) == isAmong(got.Keep, txn) {
			t.Errorf("%s: %v is lost, or stands twice: %+v", what, txn, got)
		}
	}
	wantSame(t, what+": what is kept, in order", got.Keep, withoutByPairs(tent, fresh), true)
	wantCode(t, what+": fresh and then what is kept", impl.ListFault(slices.Concat(fresh, got.Keep)), impl.OK)
}

func TestPlanOfFewNames(t *testing.T) {
	lists := fewLists(3)
	for _, tent := range lists {
		for _, fresh := range lists {
			wantPromised(t, fmt.Sprint(tent, " and ", fresh), tent, fresh)
		}
	}
}

// Guesses that are longer than what comes, as long, and shorter, up to 40: all of them right.
func TestPlanOfRightGuesses(t *testing.T) {
	for tent := range 41 {
		for fresh := range 41 {
			what := fmt.Sprint(tent, " guessed, ", fresh, " come")
			got := impl.PlanOf(ownTxns(1, tent), ownTxns(1, fresh))
			common := min(tent, fresh)
			wantPlan(t, what, got, plan(int64(common), 0, ownTxns(int64(common)+1, fresh-common), ownTxns(int64(common)+1, tent-common)))
		}
	}
}

// The guesses are right up to a place; the one there is another, and some or none come behind it.
func TestPlanOfGuessesThatGoWrong(t *testing.T) {
	for _, count := range []int{1, 2, 8, 19} {
		for at := range count {
			for i, turn := range listTurns() {
				for _, end := range []int{at + 1, count} {
					fresh := ownTxns(1, count)
					turn(&fresh[at])
					tent := ownTxns(1, count+1)
					what := fmt.Sprint(count, ", turn ", i, " at ", at, ", up to ", end)
					got := impl.PlanOf(tent, fresh[:end])
					if got.Commit != int64(at) || got.Back != int64(count+1-at) || len(got.Again) != end-at {
						t.Errorf("%s: %+v", what, got)
					}
					wantPromisedOfMany(t, what, tent, fresh[:end])
				}
			}
		}
	}
}

// wantPromisedOfMany is wantPromised for lists that may be more than 40 together.
func wantPromisedOfMany(t *testing.T, what string, tent, fresh []impl.Txn) {
	t.Helper()
	if len(tent)+len(fresh) <= 40 {
		wantPromised(t, what, tent, fresh)
		return
	}
	wantPlan(t, what, impl.PlanOf(tent, fresh), planByPairs(tent, fresh))
}

func TestPlanOf40InAnotherOrder(t *testing.T) {
	tent, fresh := ownTxns(1, 40), ownTxns(1, 40)
	slices.Reverse(fresh)
	wantPlan(t, "turned round", impl.PlanOf(tent, fresh), plan(0, 40, fresh, nil))
	wantPlan(t, "20 turned round", impl.PlanOf(tent, fresh[:20]), plan(0, 40, fresh[:20], ownTxns(1, 20)))
	wantPlan(t, "40 others", impl.PlanOf(tent, ownTxns(50, 40)), plan(0, 40, ownTxns(50, 40), tent))
	late := append(ownTxns(1, 39), ownTxns(60, 1)...)
	wantPlan(t, "the last one otherwise", impl.PlanOf(tent, late), plan(39, 1, ownTxns(60, 1), ownTxns(40, 1)))
}

// drawnList has no fault: of few names, at most so many.
func (d *drawn) list(most int) []impl.Txn {
	var list []impl.Txn
	for range d.below(most + 1) {
		txn := named(int64(1+d.below(24)), int64(1+d.below(3)), int64(1+d.below(8)), int64(d.below(2)))
		if !isAmong(list, txn) {
			list = append(list, txn)
		}
	}
	return list
}

// guess draws what may have been guessed of fresh: its beginning, then the rest stirred, with others between and behind.
func (d *drawn) guess(fresh []impl.Txn) []impl.Txn {
	at := d.below(len(fresh) + 1)
	guess, rest := slices.Clone(fresh[:at]), slices.Concat(fresh[at:], d.list(8))
	for range 2 * d.below(len(rest)+1) {
		i, j := d.below(len(rest)), d.below(len(rest))
		rest[i], rest[j] = rest[j], rest[i]
	}
	for _, txn := range rest {
		if !isAmong(guess, txn) && d.below(4) > 0 {
			guess = append(guess, txn)
		}
	}
	return guess
}

func TestPlanOfDrawnGuesses(t *testing.T) {
	d := drawn(8)
	longer, wrong, shorter, kept := 0, 0, 0, 0
	for round := range 4000 {
		fresh := d.list(16)
		tent := d.guess(fresh)
		wantPromised(t, fmt.Sprint("round ", round), tent, fresh)
		got := impl.PlanOf(tent, fresh)
		switch {
		case len(got.Again) == 0 && len(got.Keep) > 0:
			longer++
		case got.Back > 0 && got.Commit > 0:
			wrong++
		case got.Back == 0 && len(got.Again) > 0:
			shorter++
		}
		if got.Back > int64(len(got.Keep)) && len(got.Keep) > 0 {
			kept++
		}
	}
	if longer < 200 || wrong < 500 || shorter < 50 || kept < 500 {
		t.Errorf("too few: %d longer, %d wrong, %d shorter, %d kept in part", longer, wrong, shorter, kept)
	}
}

// What is planned is what is left to do: a second delivery behind a right guess finds the rest of it still right.
func TestPlansInTwoParts(t *testing.T) {
	d := drawn(9)
	for round := range 500 {
		fresh := d.list(16)
		tent := d.guess(fresh)
		cut := d.below(len(fresh) + 1)
		whole, first := impl.PlanOf(tent, fresh), impl.PlanOf(tent, fresh[:cut])
		second := impl.PlanOf(first.Keep, fresh[cut:])
		what := fmt.Sprint("round ", round)
		wantSame(t, what+": what is kept", second.Keep, whole.Keep, true)
		if len(first.Again) == 0 {
			wantInt(t, what+": what stays", impl.IntResult{Value: first.Commit + second.Commit}, whole.Commit)
			wantInt(t, what+": what is taken back", impl.IntResult{Value: second.Back}, whole.Back)
			wantSame(t, what+": what is done anew", second.Again, whole.Again, true)
		}
	}
}
