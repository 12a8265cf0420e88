package tests

import (
	"fmt"
	"slices"
	"testing"

	"loop.example/g00631/impl"
)

// Promise 14: nothing is in the order that nobody asked for. Here: what a list of steps asks for (SubmittedIn), and whether it lets a node fall (HasCrash).

// otherSteps are of all kinds but DoSubmit, with and without a transaction beside it.
func otherSteps() []impl.Step {
	list := []impl.Step{offering(1), voting(report(0, 0, 1), 3), opening(), asking(0, 3), {}}
	for _, kind := range slices.Concat([]int64{-1, 0, 2, 3, 4, 5, 6, 7, 256 + 1, 1<<32 + 1}, farNumbers) {
		list = append(list, impl.Step{Kind: kind, Txn: own(99, put(9, 9))}, impl.Step{Kind: kind, Node: 1, N: 1, Txn: own(99, put(9, 9)), Vote: report(0, 0, 1)})
	}
	return list
}

// submittedByHand keeps of list what SubmittedIn has to tell.
func submittedByHand(list []impl.Step) []impl.Txn {
	var txns []impl.Txn
	for _, s := range list {
		if s.Kind == 1 {
			txns = append(txns, s.Txn)
		}
	}
	return txns
}

func TestSubmittedInTellsEverySubmit(t *testing.T) {
	a, b := own(7, put(1, 5), add(2, 2)), own(3, remove(9))
	wantTxns(t, "nil", impl.SubmittedIn(nil))
	wantTxns(t, "no steps", impl.SubmittedIn([]impl.Step{}))
	wantTxns(t, "one", impl.SubmittedIn([]impl.Step{submitting(0, a)}), a)
	wantTxns(t, "in order", impl.SubmittedIn([]impl.Step{submitting(0, a), submitting(2, b)}), a, b)
	wantTxns(t, "in the other order", impl.SubmittedIn([]impl.Step{submitting(2, b), submitting(0, a)}), b, a)
	wantTxns(t, "the same again", impl.SubmittedIn([]impl.Step{submitting(0, a), submitting(1, b), submitting(2, a)}), a, b, a)
	wantTxns(t, "at the same node", impl.SubmittedIn([]impl.Step{submitting(0, a), submitting(0, a)}), a, a)
	list, _, _ := richSteps()
	again := own(1, put(1, 5))
	wantTxns(t, "whether it had a code or not", impl.SubmittedIn(list), again, again, own(2, remove(9)), own(2, remove(9)), again)
	var all []impl.Step
	for _, txn := range ownTxns(1, 20) {
		all = append(all, submitting(txn.Id%3, txn))
		wantTxns(t, fmt.Sprint(len(all)), impl.SubmittedIn(all), ownTxns(1, len(all))...)
	}
}

// A transaction with a fault, and a step with one, was submitted as well.
func TestSubmittedInTellsFaultyOnes(t *testing.T) {
	right := own(1, put(1, 5))
	for _, txn := range allTxnCases() {
		list := []impl.Step{submitting(0, right), submitting(1, txn.txn), submitting(2, right)}
		wantTxns(t, txn.what, impl.SubmittedIn(list), right, txn.txn, right)
	}
	wantTxns(t, "no transaction", impl.SubmittedIn([]impl.Step{{Kind: 1}}), impl.Txn{})
	for _, node := range slices.Concat(wrongNodes, farNumbers) {
		wantTxns(t, fmt.Sprint("node ", node), impl.SubmittedIn([]impl.Step{submitting(node, right)}), right)
		wantTxns(t, fmt.Sprint("an N of ", node), impl.SubmittedIn([]impl.Step{{Kind: 1, N: node, Txn: right}}), right)
	}
	wantTxns(t, "a vote beside it", impl.SubmittedIn([]impl.Step{{Kind: 1, Txn: right, Vote: report(0, 0, 1)}}), right)
}

func TestSubmittedInTellsNoneOfOtherKinds(t *testing.T) {
	a, b := own(7, put(1, 5)), own(3, remove(9))
	for i, s := range otherSteps() {
		what := fmt.Sprint("step ", i)
		wantTxns(t, what, impl.SubmittedIn([]impl.Step{s}))
		wantTxns(t, what+" twenty times", impl.SubmittedIn(slices.Repeat([]impl.Step{s}, 20)))
		wantTxns(t, what+" around two", impl.SubmittedIn([]impl.Step{s, submitting(0, a), s, submitting(1, b), s}), a, b)
	}
}

// 21 are too many, also where few of them, or none, are submits.
func TestSubmittedInOfMany(t *testing.T) {
	for i, s := range append(otherSteps(), submitting(0, own(1, put(1, 5))), impl.Step{Kind: 1}) {
		for _, count := range []int{19, 20} {
			list := slices.Repeat([]impl.Step{s}, count)
			wantTxns(t, fmt.Sprint(count, " times step ", i), impl.SubmittedIn(list), submittedByHand(list)...)
		}
		for _, count := range []int{21, 22, 40, 41, 256, 256 + 20, 1000} {
			wantTxnsCode(t, fmt.Sprint(count, " times step ", i), impl.SubmittedIn(slices.Repeat([]impl.Step{s}, count)), impl.ErrMany)
		}
		mixed := append(slices.Repeat([]impl.Step{submitting(0, own(1, put(1, 5)))}, 20), s)
		wantTxnsCode(t, fmt.Sprint("step ", i, " behind twenty"), impl.SubmittedIn(mixed), impl.ErrMany)
	}
}

func TestHasCrashByPlace(t *testing.T) {
	wantBool(t, "nil", impl.HasCrash(nil), false)
	wantBool(t, "no steps", impl.HasCrash([]impl.Step{}), false)
	wantBool(t, "what stands behind a length", impl.HasCrash([]impl.Step{opening(), asking(0, 3)}[:1]), false)
	for _, count := range []int{1, 2, 3, 5, 19, 20, 21, 40, 300} {
		for i, s := range wholeSteps() {
			list := slices.Repeat([]impl.Step{s}, count)
			wantBool(t, fmt.Sprint(count, " times step ", i), impl.HasCrash(list), false)
			for _, at := range []int{0, count / 2, count - 1} {
				for node := range int64(3) {
					one := slices.Clone(list)
					one[at] = asking(node, 3)
					wantBool(t, fmt.Sprint("node ", node, " at ", at, " of ", count, " times step ", i), impl.HasCrash(one), true)
				}
			}
		}
	}
	wantBool(t, "several", impl.HasCrash([]impl.Step{asking(0, 3), opening(), asking(2, 3)}), true)
}

// A DoNode with 3, and nothing else, is a crash: whichever the node is, and whatever stands beside it.
func TestHasCrashByWhatAStepIs(t *testing.T) {
	for _, n := range slices.Concat([]int64{-3, -1, 0, 1, 2, 4, 5, 6, 7, 256 + 3, 1<<32 + 3}, farNumbers) {
		for node := range int64(4) {
			wantBool(t, fmt.Sprint("what ", n, " at ", node), impl.HasCrash([]impl.Step{asking(node, n)}), false)
		}
		if n != 5 {
			wantBool(t, fmt.Sprint("3 at the kind ", n), impl.HasCrash([]impl.Step{{Kind: n, N: 3}, {Kind: n, Node: 3, N: 3}, {Kind: n, Node: 3}}), false)
		}
		wantBool(t, fmt.Sprint("3 at the node ", n), impl.HasCrash([]impl.Step{asking(n, 3)}), true)
	}
	wantBool(t, "a mask of 3", impl.HasCrash([]impl.Step{voting(ending(0, 1), 3)}), false)
	wantBool(t, "an offer of 3", impl.HasCrash([]impl.Step{offering(3)}), false)
	wantBool(t, "a node of 3", impl.HasCrash([]impl.Step{asking(3, 1)}), false)
	wantBool(t, "a vote of the kind 3", impl.HasCrash([]impl.Step{{Kind: 5, Vote: impl.Vote{Kind: 3}}}), false)
	wantBool(t, "a transaction beside it", impl.HasCrash([]impl.Step{{Kind: 5, N: 3, Txn: own(1, put(1, 5))}}), true)
}
