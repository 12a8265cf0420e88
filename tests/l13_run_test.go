package tests

import (
	"fmt"
	"math"
	"reflect"
	"slices"
	"testing"

	"loop.example/g00631/impl"
)

// Promise 14, of RunSteps: one by one, what has a code turns nothing, and two parts are done as one.

// runByKind does right steps and others one by one by the functions of their kinds.
func runByKind(c impl.Cluster, list []impl.Step) impl.RunResult {
	run := impl.RunResult{Cluster: c}
	for _, s := range list {
		then := stepByKind(run.Cluster, s)
		run.Codes, run.Answers = append(run.Codes, then.Code), append(run.Answers, then.Answer)
		if then.Code == impl.OK {
			run.Cluster = then.Cluster
		}
	}
	return run
}

func isSameRun(a, b impl.RunResult) bool {
	return reflect.DeepEqual(emptyAsNil(a), emptyAsNil(b))
}

func wantRun(t *testing.T, what string, got, want impl.RunResult) {
	t.Helper()
	if !isSameRun(got, want) {
		t.Errorf("%s: got %+v, want %+v", what, got, want)
	}
}

func wantRunCode(t *testing.T, what string, got impl.RunResult, code int64) {
	t.Helper()
	wantRun(t, what, got, impl.RunResult{Code: code})
}

// wantRunInParts cuts list at each place: the second part on the cluster that the first one left.
func wantRunInParts(t *testing.T, what string, c impl.Cluster, list []impl.Step, whole impl.RunResult) {
	t.Helper()
	for cut := range len(list) + 1 {
		first := impl.RunSteps(c, list[:cut])
		second := impl.RunSteps(first.Cluster, list[cut:])
		both := impl.RunResult{Code: max(first.Code, second.Code), Codes: slices.Concat(first.Codes, second.Codes), Answers: slices.Concat(first.Answers, second.Answers), Cluster: second.Cluster}
		wantRun(t, fmt.Sprint(what, ", cut at ", cut), both, whole)
	}
}

// wantRunOf asks all that is promised of a RunSteps; c is right, and list no longer than it may be.
func wantRunOf(t *testing.T, what string, c impl.Cluster, list []impl.Step) impl.RunResult {
	t.Helper()
	got := impl.RunSteps(c, list)
	wantRun(t, what, got, runByKind(c, list))
	if len(got.Codes) != len(list) || len(got.Answers) != len(list) {
		t.Errorf("%s: %d codes and %d answers of %d steps", what, len(got.Codes), len(got.Answers), len(list))
		return got
	}
	wantCode(t, what+": the cluster behind it", impl.ClusterFault(got.Cluster), impl.OK)
	for at, code := range got.Codes {
		if code != impl.OK && got.Answers[at] != 0 {
			t.Errorf("%s: step %d has code %d and answer %d", what, at, code, got.Answers[at])
		}
	}
	return got
}

// richSteps bring a cluster from the beginning to its second instance; every answer and code of them is told beside them.
func richSteps() (list []impl.Step, codes, answers []int64) {
	a, b := own(1, put(1, 5)), own(2, remove(9))
	for _, one := range []struct {
		s      impl.Step
		code   int64
		answer int64
	}{
		{submitting(0, a), impl.OK, 0}, {submitting(0, a), impl.ErrTaken, 0}, {submitting(0, b), impl.OK, impl.ErrNone}, {submitting(2, b), impl.OK, impl.ErrNone},
		{offering(3), impl.OK, 2}, {offering(1), impl.ErrTaken, 0}, {voting(report(0, 0, 1), 0), impl.OK, 0}, {voting(report(0, 2, 1), 0), impl.OK, 0},
		{voting(proposal(0, 0, 0), 0), impl.ErrVote, 0}, {voting(proposal(0, 0, 0), 5), impl.OK, 1}, {opening(), impl.ErrState, 0}, {voting(proposal(0, 2, 0), 5), impl.OK, 1},
		{impl.Step{Kind: impl.DoOpen, Node: 1}, impl.ErrForm, 0}, {voting(ending(2, 0), 5), impl.OK, 1}, {asking(2, 1), impl.OK, 1}, {asking(2, 1), impl.ErrNone, 0},
		{asking(1, 4), impl.OK, 1}, {opening(), impl.OK, 0}, {asking(2, 3), impl.OK, 0}, {submitting(3, a), impl.ErrRange, 0},
	} {
		list, codes, answers = append(list, one.s), append(codes, one.code), append(answers, one.answer)
	}
	return list, codes, answers
}

func TestRunStepsByHand(t *testing.T) {
	list, codes, answers := richSteps()
	c, a, b := impl.NewCluster().Cluster, own(1, put(1, 5)), own(2, remove(9))
	order := []impl.Instance{boardBy([]impl.Txn{a, b}, "..1", "1.1 1.1", "..1 ..."), newBoard()}
	want := impl.RunResult{Codes: codes, Answers: answers, Cluster: clusterOf(order, nodeBy(order, 0, 0, a, b), nodeBy(order, 1, 0), impl.Node{})}
	wantRun(t, "all of it", wantRunOf(t, "all of it", c, list), want)
	wantRunInParts(t, "all of it", c, list, want)
	var done []impl.Step
	for at, s := range list {
		wantRunOf(t, fmt.Sprint("the first ", at), c, list[:at])
		wantRunOf(t, fmt.Sprint("step ", at, " alone"), c, []impl.Step{s})
		if codes[at] == impl.OK {
			done = append(done, s)
		}
	}
	alone := wantRunOf(t, "those without a code", c, done)
	wantSameClusters(t, "without those that have a code", alone.Cluster, want.Cluster, true)
	if !slices.Equal(alone.Codes, make([]int64, len(done))) || len(done) != 13 {
		t.Errorf("codes %v", alone.Codes)
	}
}

// No steps at all leave the cluster as it was, in new memory, nil or not.
func TestRunStepsOfNone(t *testing.T) {
	at := 0
	overClusters(func(what string, c impl.Cluster) {
		for _, list := range [][]impl.Step{nil, {}, make([]impl.Step, 3)[:0]} {
			if at++; at%5 == 0 {
				got := impl.RunSteps(c, list)
				wantRun(t, what, got, impl.RunResult{Cluster: c})
				checkNewMemory(t, what, got, []any{c})
			}
		}
	})
}

func TestRunStepsOfOne(t *testing.T) {
	for i, c := range []impl.Cluster{impl.NewCluster().Cluster, variedCluster(), memoryCluster(), holding([]impl.Instance{newBoard()}, 3, 0, 8), newNodes(fullOrder())} {
		for j, s := range slices.Concat(someSteps(), faultySteps()) {
			what := fmt.Sprint("step ", j, " at ", i)
			got, done := wantRunOf(t, what, c, []impl.Step{s}), impl.DoStep(c, s)
			if done.Code == impl.OK {
				wantRun(t, what, got, impl.RunResult{Codes: []int64{0}, Answers: []int64{done.Answer}, Cluster: done.Cluster})
			} else {
				wantRun(t, what, got, impl.RunResult{Codes: []int64{done.Code}, Answers: []int64{0}, Cluster: c})
			}
		}
	}
}

// 20 steps are done, 21 are too many, whatever they are, and whatever is wrong with them.
func TestRunStepsOfMany(t *testing.T) {
	c := variedCluster()
	for i, s := range slices.Concat(wholeSteps(), faultySteps()) {
		what := fmt.Sprint("step ", i)
		for _, count := range []int{19, 20} {
			wantRunOf(t, fmt.Sprint(count, " times ", what), c, slices.Repeat([]impl.Step{s}, count))
		}
		for _, count := range []int{21, 22, 40, 256, 256 + 20, 1000} {
			wantRunCode(t, fmt.Sprint(count, " times ", what), impl.RunSteps(c, slices.Repeat([]impl.Step{s}, count)), impl.ErrMany)
		}
	}
	list, _, _ := richSteps()
	wantRunCode(t, "one more than 20", impl.RunSteps(impl.NewCluster().Cluster, append(slices.Clone(list), opening())), impl.ErrMany)
	more := append(slices.Clone(list), opening())
	wantRun(t, "what stands behind a length", impl.RunSteps(impl.NewCluster().Cluster, more[:20]), impl.RunSteps(impl.NewCluster().Cluster, list))
}

// The ClusterFault is told ahead of too many steps, of steps with a fault, and of none.
func TestRunStepsTellsTheClusterFaultFirst(t *testing.T) {
	lists := [][]impl.Step{nil, {}, wholeSteps(), faultySteps(), make([]impl.Step, 20), make([]impl.Step, 21), slices.Repeat(wholeSteps(), 100), slices.Concat(wholeSteps(), faultySteps())}
	for i, c := range allClusterCases() {
		wantRunCode(t, c.what, impl.RunSteps(c.c, lists[i%len(lists)]), c.code)
	}
	for i, list := range lists {
		wantRunCode(t, fmt.Sprint("nothing, list ", i), impl.RunSteps(impl.Cluster{}, list), impl.ErrMany)
		wantRunCode(t, fmt.Sprint("an open one ahead, list ", i), impl.RunSteps(newNodes([]impl.Instance{newBoard(), newBoard()}), list), impl.ErrState)
		wantRunCode(t, fmt.Sprint("a node out of its bounds, list ", i), impl.RunSteps(withNode(variedCluster(), 2, impl.Node{Safe: 1}), list), impl.ErrRange)
	}
}

// A step with a fault among others: its code stands in its place, and the others are done as if it were not there.
func TestRunStepsWithAFaultAmongOthers(t *testing.T) {
	list, codes, answers := richSteps()
	list, codes, answers = list[:19], codes[:19], answers[:19]
	c := impl.NewCluster().Cluster
	without := impl.RunSteps(c, list)
	for at := range len(list) + 1 {
		for _, s := range faultySteps() {
			want := impl.RunResult{Codes: slices.Insert(slices.Clone(codes), at, impl.ErrForm), Answers: slices.Insert(slices.Clone(answers), at, 0), Cluster: without.Cluster}
			wantRun(t, fmt.Sprintf("%+v at %d", s, at), impl.RunSteps(c, slices.Insert(slices.Clone(list), at, s)), want)
		}
	}
	wantRun(t, "faults alone", impl.RunSteps(without.Cluster, faultySteps()), impl.RunResult{Codes: slices.Repeat([]int64{impl.ErrForm}, 20), Answers: make([]int64, 20), Cluster: without.Cluster})
}

// What has a code turns nothing: steps that have each of the codes, between any two others.
func TestRunStepsWithACodeTurnNothing(t *testing.T) {
	list, _, _ := richSteps()
	met := map[string]int{}
	for at := range 20 {
		before := impl.RunSteps(impl.NewCluster().Cluster, list[:at])
		for _, s := range someSteps() {
			done := impl.DoStep(before.Cluster, s)
			if done.Code == impl.OK {
				continue
			}
			got := impl.RunSteps(before.Cluster, []impl.Step{s, s})
			wantRun(t, fmt.Sprintf("%+v behind %d", s, at), got, impl.RunResult{Codes: []int64{done.Code, done.Code}, Answers: []int64{0, 0}, Cluster: before.Cluster})
			met[fmt.Sprint(s.Kind, " code ", done.Code)]++
		}
	}
	for _, what := range []string{"1 code 2", "1 code 3", "1 code 6", "2 code 3", "2 code 4", "2 code 6", "3 code 1", "3 code 3", "3 code 4", "3 code 6", "3 code 8", "3 code 10", "4 code 1", "4 code 8", "5 code 3", "5 code 4", "0 code 1", "6 code 1"} {
		if met[what] == 0 {
			t.Errorf("%s: none in %v", what, met)
		}
	}
}

// Each one is done at what the one ahead left, in the order in which they stand.
func TestRunStepsInOrder(t *testing.T) {
	a, b := own(1, put(1, 5)), own(2, holds(1, 5))
	c := impl.NewCluster().Cluster
	ab := wantRunOf(t, "a and b", c, []impl.Step{submitting(0, a), submitting(0, b)})
	wantRun(t, "a and b", ab, impl.RunResult{Codes: []int64{0, 0}, Answers: []int64{0, 0}, Cluster: withNode(c, 0, nodeBy(nil, 0, 0, a, b))})
	ba := wantRunOf(t, "b and a", c, []impl.Step{submitting(0, b), submitting(0, a)})
	wantRun(t, "b and a", ba, impl.RunResult{Codes: []int64{0, 0}, Answers: []int64{impl.ErrAbort, 0}, Cluster: withNode(c, 0, nodeBy(nil, 0, 0, b, a))})
	eight := []impl.Step{}
	for _, txn := range ownTxns(40, 20) {
		eight = append(eight, submitting(1, txn))
	}
	full := wantRunOf(t, "more than a Tent holds", c, eight)
	wantSame(t, "the first eight of them", full.Cluster.Nodes[1].Replica.Tent, ownTxns(40, 8), true)
	if want := append(make([]int64, 8), slices.Repeat([]int64{impl.ErrFull}, 12)...); !slices.Equal(full.Codes, want) {
		t.Errorf("codes %v", full.Codes)
	}
}

// The least and the greatest numbers, wherever a step has numbers, stand among others that are done.
func TestRunStepsOfFarNumbers(t *testing.T) {
	c := variedCluster()
	for _, n := range []int64{math.MinInt64, math.MinInt64 + 1, -1, 1 << 32, math.MaxInt64 - 1, math.MaxInt64} {
		far := []impl.Step{{Kind: n}, {Kind: n, Node: n, N: n}, submitting(n, own(90, put(1, 1))), submitting(0, own(n, put(1, 1))), submitting(0, own(90, put(n, 1))), offering(n), voting(report(0, n, 0), 3), voting(impl.Vote{Kind: n, Round: n, Node: n, Value: n}, n), voting(proposal(0, 0, 0), n), asking(n, 1), asking(0, n)}
		got := wantRunOf(t, fmt.Sprint(n), c, append(far, asking(1, 1)))
		wantSameClusters(t, fmt.Sprint(n, ": the last one alone turns something"), got.Cluster, impl.AtNode(c, 1, 1).Cluster, true)
		if slices.Contains(got.Codes[:len(far)], impl.OK) {
			t.Errorf("%d: codes %v", n, got.Codes)
		}
	}
}
