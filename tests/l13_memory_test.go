package tests

import (
	"fmt"
	"slices"
	"testing"

	"loop.example/g00631/impl"
)

// Promise 1, of chapter 13.

// manyStepLists are right and wrong, nil, empty, full and too long.
func manyStepLists() [][]impl.Step {
	rich, _, _ := richSteps()
	acts := impl.Step{Kind: impl.DoSubmit, Txn: impl.Txn{Id: 1, Session: 1, Seq: 1, Acts: []impl.Act{}}}
	lists := [][]impl.Step{nil, {}, rich, rich[:7], wholeSteps(), faultySteps(), {acts}, {acts, {Kind: impl.DoOpen, Txn: acts.Txn}, {Kind: impl.DoSubmit}}, make([]impl.Step, 20), make([]impl.Step, 21), append(slices.Clone(rich), opening()), slices.Repeat(wholeSteps(), 60)}
	return append(lists, []impl.Step{submitting(0, own(90, put(1, 1))), submitting(0, own(91, remove(19))), submitting(1, own(90, put(1, 1))), offering(2), asking(0, 4), asking(1, 2), asking(2, 3), voting(report(0, 2, 0), 0), opening()})
}

func callsOfSteps(what string, list []impl.Step) []call {
	calls := []call{call1("SubmittedIn "+what, impl.SubmittedIn, list), call1("HasCrash "+what, impl.HasCrash, list)}
	for i, s := range list[:min(20, len(list))] {
		calls = append(calls, call1(fmt.Sprint("StepFault ", what, ", step ", i), impl.StepFault, s))
	}
	return calls
}

func TestRunsLeaveAllElseAlone(t *testing.T) {
	lists := manyStepLists()
	for i, list := range lists {
		checkCalls(t, callsOfSteps(fmt.Sprint("list ", i), list))
	}
	steps := slices.Concat(someSteps(), faultySteps())
	for i, c := range manyClusters() {
		var calls []call
		for j, list := range lists {
			if (i+j)%3 == 0 || j < 3 {
				calls = append(calls, call2(fmt.Sprint("RunSteps ", i, ", list ", j), impl.RunSteps, c, list))
			}
		}
		for j, s := range steps {
			if (i+j)%9 == 0 {
				calls = append(calls, call2(fmt.Sprintf("DoStep %d, %+v", i, s), impl.DoStep, c, s))
			}
		}
		checkCalls(t, calls)
	}
}

// Every number in every place of a step.
func TestRunsAnswerAtEveryNumber(t *testing.T) {
	var calls []call
	c := holding([]impl.Instance{refusedBoard(), boardBy(nil, "...", "00. 0..")}, 2, 3, 1)
	for _, n := range slices.Concat(manyInts, farNumbers) {
		list := []impl.Step{{Kind: n}, {Node: n}, {N: n}, {Kind: n, Node: n, N: n, Txn: named(n, n, n, n), Vote: impl.Vote{Kind: n, Round: n, Node: n, Value: n}}, submitting(n, own(90, put(1, 1))), submitting(1, named(n, 9, 98, 0)), submitting(1, named(90, n, 1, 0)), submitting(1, named(90, 9, n, 0)), submitting(1, own(60, impl.Act{Kind: n, Key: n, Value: n})),
			offering(n), voting(report(0, 2, 0), n), voting(report(n, 2, 0), 3), voting(report(0, n, 0), 3), voting(ending(0, n), 3), asking(n, 4), asking(1, n)}
		for i, s := range list {
			what := fmt.Sprint(n, " in ", i)
			calls = append(calls, call1("StepFault "+what, impl.StepFault, s), call2("DoStep "+what, impl.DoStep, c, s), call2("RunSteps "+what, impl.RunSteps, c, []impl.Step{s}))
		}
		what := fmt.Sprint(n)
		calls = append(calls, call2("RunSteps of all "+what, impl.RunSteps, c, list), call1("SubmittedIn "+what, impl.SubmittedIn, list), call1("HasCrash "+what, impl.HasCrash, list))
	}
	checkCalls(t, calls)
}

// memorySteps turn each list that a cluster has, from memoryCluster on.
func memorySteps() []impl.Step {
	return []impl.Step{submitting(1, own(90, put(1, 1), add(3, 3))), offering(2), {Kind: 9}, voting(report(0, 2, 0), 0), voting(proposal(1, 1, 0), 3), voting(ending(0, 0), 3), opening(), asking(0, 1), asking(2, 2), asking(1, 3), asking(1, 4), submitting(1, own(91, put(4, 4)))}
}

// What is answered is the caller's own: what is written to it, or later to the arguments, shows nowhere else.
func TestRunsAreNewMemory(t *testing.T) {
	want := runByKind(memoryCluster(), memorySteps())
	wantCodes := make([]int64, len(want.Codes))
	wantCodes[2] = impl.ErrForm
	if !slices.Equal(want.Codes, wantCodes) {
		t.Errorf("codes %v", want.Codes)
	}
	c, list := memoryCluster(), copied(memorySteps()).([]impl.Step)
	first, second := impl.RunSteps(c, list), impl.RunSteps(c, list)
	checkNewMemory(t, "RunSteps", first, []any{c, list})
	checkNewMemory(t, "two answers", first, []any{second})
	overwrite(first)
	wantSameClusters(t, "the cluster behind it", c, memoryCluster(), true)
	if !slices.EqualFunc(list, memorySteps(), isSameStep) {
		t.Errorf("the steps behind it: %+v", list)
	}
	wantRun(t, "the next answer", impl.RunSteps(c, list), want)
	overwrite(c)
	overwrite(list)
	wantRun(t, "the other answer", second, want)
}

func isSameStep(a, b impl.Step) bool { return fmt.Sprintf("%+v", a) == fmt.Sprintf("%+v", b) }

// Each step alone, behind those ahead of it.
func TestStepsAreNewMemory(t *testing.T) {
	c := memoryCluster()
	for at, s := range memorySteps() {
		want := stepByKind(c, s)
		given, step := copied(c).(impl.Cluster), copied(s).(impl.Step)
		first, second := impl.DoStep(given, step), impl.DoStep(given, step)
		checkNewMemory(t, fmt.Sprint("step ", at), first, []any{given, step, second})
		overwrite(first)
		overwrite(given)
		overwrite(step)
		wantSaid(t, fmt.Sprint("step ", at, ": the other answer"), second, want)
		if want.Code == impl.OK {
			c = want.Cluster
		}
	}
}

func TestSubmittedInIsNewMemory(t *testing.T) {
	acts := []impl.Act{put(1, 1)}
	list := []impl.Step{submitting(0, own(1, acts...)), submitting(1, own(1, acts...)), opening(), submitting(2, own(2, remove(9)))}
	list[0].Txn.Acts, list[1].Txn.Acts = acts, acts
	want := []impl.Txn{own(1, put(1, 1)), own(1, put(1, 1)), own(2, remove(9))}
	first, second := impl.SubmittedIn(list), impl.SubmittedIn(list)
	checkNewMemory(t, "SubmittedIn", first, []any{list, acts, second})
	overwrite(first)
	wantTxns(t, "the next answer", impl.SubmittedIn(list), want...)
	overwrite(list)
	overwrite(acts)
	wantTxns(t, "the other answer", second, want...)
}

// Lists that the arguments have twice, or in common, are told apart in the answer, also of steps that turn nothing.
func TestSharedStepsAreToldApart(t *testing.T) {
	acts := []impl.Act{put(1, 1)}
	txn := own(1, put(1, 1))
	txn.Acts = acts
	order := []impl.Instance{newBoard()}
	n := nodeBy(order, 0, 0, own(70, put(1, 1)))
	n.Replica.Tent[0].Acts = acts
	c := clusterOf(order, n, n, n)
	list := []impl.Step{submitting(0, txn), submitting(1, txn), submitting(2, txn), offering(2)}
	got := wantRunOf(t, "shared", c, list)
	checkNewMemory(t, "shared", got, []any{c, list, acts})
	if !slices.Equal(got.Codes, make([]int64, 4)) {
		t.Errorf("codes %v", got.Codes)
	}
	checkNewMemory(t, "turned by none", impl.RunSteps(c, []impl.Step{{}, opening(), asking(0, 1)}), []any{c, list, acts})
	overwrite(got)
	if !slices.Equal(acts, []impl.Act{put(1, 1)}) {
		t.Errorf("the acts are %v", acts)
	}
}

// Steps that stand behind the length of a list are none of it, and stay.
func TestRunsStopAtTheLength(t *testing.T) {
	whole := make([]impl.Step, 0, 21)
	whole = append(whole, slices.Repeat([]impl.Step{submitting(0, own(1, put(1, 1)))}, 20)...)
	whole = append(whole, asking(0, 3))
	wantRunCode(t, "21", impl.RunSteps(impl.NewCluster().Cluster, whole), impl.ErrMany)
	wantTxnsCode(t, "21", impl.SubmittedIn(whole), impl.ErrMany)
	wantBool(t, "21", impl.HasCrash(whole), true)
	wantBool(t, "20", impl.HasCrash(whole[:20]), false)
	wantRunOf(t, "20", impl.NewCluster().Cluster, whole[:20])
	wantTxns(t, "none", impl.SubmittedIn(whole[:0]))
	wantTxns(t, "two", impl.SubmittedIn(whole[:2]), own(1, put(1, 1)), own(1, put(1, 1)))
	if !isSameStep(whole[20], asking(0, 3)) || !isSameStep(whole[2], whole[0]) {
		t.Errorf("the steps are %+v", whole)
	}
}

// An empty list is nil: of steps, of acts, of an order and of nodes.
func TestEmptyStepsAreNil(t *testing.T) {
	c := impl.NewCluster().Cluster
	wantRun(t, "no steps", impl.RunSteps(c, []impl.Step{}), impl.RunSteps(c, nil))
	wantRun(t, "nothing", impl.RunSteps(impl.Cluster{Order: []impl.Instance{}, Nodes: []impl.Node{}}, []impl.Step{}), impl.RunSteps(impl.Cluster{}, nil))
	empty := []impl.Step{{Kind: impl.DoOpen, Txn: impl.Txn{Acts: []impl.Act{}}}, {Kind: impl.DoSubmit, Txn: impl.Txn{Id: 1, Session: 1, Seq: 1, Acts: []impl.Act{}}}}
	for _, s := range empty {
		wantCode(t, "StepFault", impl.StepFault(s), impl.StepFault(swapEmpty(s)))
		wantSaid(t, "DoStep", impl.DoStep(c, s), impl.DoStep(c, swapEmpty(s)))
	}
	wantRun(t, "no acts", impl.RunSteps(swapEmpty(c), empty), impl.RunSteps(c, swapEmpty(empty)))
	wantRun(t, "no acts", impl.RunSteps(c, empty), impl.RunResult{Codes: []int64{impl.ErrState, impl.ErrMany}, Answers: []int64{0, 0}, Cluster: c})
}
