package tests

import (
	"fmt"
	"math"
	"slices"
	"testing"

	"loop.example/g00631/impl"
)

// Promise 14, of DoStep: a step is what the function of its kind answers, and what has a code turns nothing.

// stepByKind is what the chapter's words tell of a step: the codes ahead, and the function of its kind.
func stepByKind(c impl.Cluster, s impl.Step) impl.ClusterResult {
	if code := impl.ClusterFault(c); code != impl.OK {
		return impl.ClusterResult{Code: code}
	}
	if code := stepFaultByParts(s); code != impl.OK {
		return impl.ClusterResult{Code: code}
	}
	switch s.Kind {
	case impl.DoSubmit:
		return impl.Submit(c, s.Node, s.Txn)
	case impl.DoOffer:
		return impl.OfferBatch(c, s.N)
	case impl.DoVote:
		return impl.CastVote(c, s.Vote, s.N)
	case impl.DoOpen:
		return impl.OpenNext(c)
	}
	return impl.AtNode(c, s.Node, s.N)
}

// wantStep asks all that is promised of a DoStep.
func wantStep(t *testing.T, what string, c impl.Cluster, s impl.Step) impl.ClusterResult {
	t.Helper()
	return wantSaid(t, fmt.Sprintf("%s, %+v", what, s), impl.DoStep(c, s), stepByKind(c, s))
}

// wantStepCode: the step tells that code, and nothing else.
func wantStepCode(t *testing.T, what string, c impl.Cluster, s impl.Step, code int64) {
	t.Helper()
	wantClusterCode(t, what, impl.DoStep(c, s), code)
}

// someSteps are steps of every kind, many of which have a code at most clusters.
func someSteps() []impl.Step {
	var list []impl.Step
	for node := int64(-1); node <= 3; node++ {
		for ask := range int64(6) {
			list = append(list, asking(node, ask))
		}
		for _, txn := range []impl.Txn{own(60, put(1, 1), add(5, 5)), own(61, remove(19)), own(62), ownTxns(1, 1)[0]} {
			list = append(list, submitting(node, txn))
		}
	}
	for most := range int64(6) {
		list = append(list, offering(most))
	}
	for at, v := range rightVotes() {
		list = append(list, voting(v, []int64{3, 5, 6, 7, 0}[at%5]), voting(v, 3))
	}
	return append(list, opening(), impl.Step{}, impl.Step{Kind: 6}, voting(impl.Vote{}, 7), impl.Step{Kind: impl.DoOpen, N: 1})
}

func TestDoStepAtEveryCluster(t *testing.T) {
	steps, met, at := someSteps(), map[string]int{}, 0
	tell := func(what string, c impl.Cluster) {
		for i, s := range steps {
			if i%15 == at%15 {
				got := wantStep(t, what, c, s)
				met[fmt.Sprint(s.Kind, " code ", got.Code)]++
			}
		}
		at++
	}
	overClusters(tell)
	for i, c := range votedClusters() {
		tell(fmt.Sprint("voted ", i), c)
	}
	for _, what := range []string{"1 code 0", "1 code 2", "1 code 3", "1 code 6", "2 code 0", "2 code 3", "2 code 4", "2 code 6", "3 code 0", "3 code 1", "3 code 3", "3 code 4", "3 code 6", "3 code 8", "3 code 10", "4 code 0", "4 code 7", "4 code 8", "5 code 0", "5 code 3", "5 code 4", "0 code 1", "6 code 1"} {
		if met[what] < 3 {
			t.Errorf("%s: too few of %v", what, met)
		}
	}
}

// Each kind does at its Node, with its N, Txn and Vote, what the function of that kind does.
func TestDoStepByHand(t *testing.T) {
	c := memoryCluster()
	heard := own(90, put(1, 1), add(3, 3))
	want := memoryAnswers(heard)
	proposed := withLast(c, boardBy(nil, "0..", "00. 00.", "00. 00."))
	for what, s := range map[string]impl.Step{"Submit": submitting(1, heard), "OfferBatch": offering(2), "a report": voting(report(0, 2, 0), 0), "a proposal": voting(proposal(1, 1, 0), 3), "OpenNext": opening(),
		"AtNode of 1": asking(0, 1), "AtNode of 2": asking(2, 2), "AtNode of 3": asking(2, 3), "AtNode of 4": asking(2, 4)} {
		wantSaid(t, what, impl.DoStep(c, s), want[what])
	}
	wantSaid(t, "an end", impl.DoStep(proposed, voting(ending(0, 0), 3)), want["an end"])
	for node := range int64(3) {
		fresh := impl.NewCluster().Cluster
		wantCluster(t, "Answer is the code of what was done ahead", impl.DoStep(fresh, submitting(node, own(2, remove(9)))), impl.ErrNone, withNode(fresh, int(node), nodeBy(nil, 0, 0, own(2, remove(9)))))
		holdsAll := holding([]impl.Instance{newBoard()}, 8, 8, 8)
		wantCluster(t, "Answer is how many were offered", impl.DoStep(holdsAll, offering(node+2)), node+2, withLast(holdsAll, boardBy(ownTxns(40, int(node)+2), "...", "... ...")))
	}
	one := ownTxns(31, 1)
	split := newNodes([]impl.Instance{boardBy(one, "...", "101 2.2")})
	wantCluster(t, "Answer is what was proposed", impl.DoStep(split, voting(proposal(0, 1, 0), 5)), 1, withLast(split, boardBy(one, "...", "101 212")))
	wantCluster(t, "whatever Value the vote has", impl.DoStep(split, voting(proposal(0, 1, 1), 3)), none, withLast(split, boardBy(one, "...", "101 222")))
	for coin := range int64(2) {
		wantCluster(t, "Answer is the coin", impl.DoStep(split, voting(ending(2, coin), 5)), coin, withLast(split, boardBy(one, "...", "101 2.2", fmt.Sprint("..", coin, " ..."))))
	}
	varied := variedCluster()
	wantCluster(t, "Answer is how many were taken back", impl.DoStep(varied, asking(1, 1)), 1, withNode(varied, 1, nodeBy(varied.Order, 1, 0, varied.Nodes[1].Replica.Tent[0])))
	wantCluster(t, "Answer is how often it learned", impl.DoStep(varied, asking(1, 4)), 4, withNode(varied, 1, nodeBy(varied.Order, 4, 0, varied.Nodes[1].Replica.Tent[0])))
}

// With a mask of nobody one may report, as nobody need be heard for it; nothing else may be said.
func TestDoStepByAMaskOfNobody(t *testing.T) {
	one := ownTxns(31, 1)
	c := newNodes([]impl.Instance{boardBy(one, "...", "11. 1..")})
	for value := range int64(2) {
		wantCluster(t, "a report", impl.DoStep(c, voting(report(0, 2, value), 0)), 0, withLast(c, boardBy(one, "...", fmt.Sprint("11", value, " 1.."))))
	}
	wantStepCode(t, "a proposal", c, voting(proposal(0, 1, 1), 0), impl.ErrVote)
	wantStepCode(t, "an end", c, voting(ending(0, 1), 0), impl.ErrVote)
	wantStepCode(t, "an end of who never proposed", c, voting(ending(1, 1), 0), impl.ErrNone)
	wantStepCode(t, "no vote", c, voting(impl.Vote{}, 0), impl.ErrForm)
	wantStepCode(t, "offered to nobody", holding([]impl.Instance{newBoard()}, 2, 2, 2), offering(0), impl.ErrRange)
	wantStepCode(t, "nothing asked", c, asking(0, 0), impl.ErrRange)
}

func TestDoStepTellsTheCodesOfSubmit(t *testing.T) {
	order := fullOrder()
	c := clusterOf(order, nodeBy(order, 2, 1, ownTxns(70, 8)...), nodeBy(order, 2, 1), impl.Node{})
	right := own(90, put(1, 1))
	for _, node := range slices.Concat([]int64{-1, 3}, wrongNodes, farNumbers) {
		wantStepCode(t, fmt.Sprint("node ", node), c, submitting(node, right), impl.ErrRange)
		wantStepCode(t, fmt.Sprint("no transaction, node ", node), c, submitting(node, impl.Txn{Acts: []impl.Act{{Kind: 9}}}), impl.ErrRange)
	}
	for i, txn := range allTxnCases() {
		if txn.code != impl.OK {
			wantStepCode(t, txn.what, c, submitting(int64(i%3), txn.txn), txn.code)
		}
	}
	wantStepCode(t, "Done", c, submitting(1, ownTxns(8, 1)[0]), impl.ErrTaken)
	wantStepCode(t, "heard", c, submitting(0, ownTxns(77, 1)[0]), impl.ErrTaken)
	wantStepCode(t, "no room", c, submitting(0, right), impl.ErrFull)
	wantStep(t, "room", c, submitting(2, right))
}

func TestDoStepTellsTheCodesOfOfferBatch(t *testing.T) {
	free := holding([]impl.Instance{newBoard()}, 3, 0, 0)
	for _, most := range slices.Concat([]int64{-1, 0, 5, 6}, farNumbers) {
		wantStepCode(t, fmt.Sprint("most ", most), free, offering(most), impl.ErrRange)
	}
	for most := int64(1); most <= 4; most++ {
		wantStepCode(t, "nothing heard", holding([]impl.Instance{newBoard()}, 0, 3, 3), offering(most), impl.ErrNone)
		wantStepCode(t, "a batch is there", holding([]impl.Instance{openBoard(ownTxns(31, 1)...)}, 3, 0, 0), offering(most), impl.ErrTaken)
		wantStep(t, "free", free, offering(most))
	}
}

func TestDoStepTellsTheCodesOfCastVote(t *testing.T) {
	for _, v := range voteNamedCases() {
		if v.code != impl.OK {
			wantStepCode(t, v.what, variedCluster(), voting(v.vote, 3), v.code)
		}
	}
	one := ownTxns(31, 1)
	c := newNodes([]impl.Instance{boardBy(one, "...", "11. 1..")})
	for _, said := range []struct {
		what string
		v    impl.Vote
		mask int64
		code int64
	}{
		{"a report of another round", report(1, 2, 1), 3, impl.ErrForm}, {"one that reported", report(0, 1, 1), 3, impl.ErrTaken},
		{"a round that is not there", proposal(1, 1, 1), 3, impl.ErrRange}, {"one that proposed", proposal(0, 0, 1), 3, impl.ErrTaken}, {"one that did not report", proposal(0, 2, 1), 3, impl.ErrState}, {"one that was not heard", proposal(0, 1, 1), 7, impl.ErrVote}, {"no mask", proposal(0, 1, 1), 8, impl.ErrVote},
		{"none proposed by it", ending(1, 1), 3, impl.ErrNone}, {"another one that was not heard", ending(0, 1), 3, impl.ErrVote}, {"the least mask", ending(0, 1), math.MinInt64, impl.ErrVote},
	} {
		wantStepCode(t, said.what, c, voting(said.v, said.mask), said.code)
	}
	wantStepCode(t, "1 without a batch", impl.NewCluster().Cluster, voting(report(0, 0, 1), 3), impl.ErrVote)
	wantStepCode(t, "gone on already", newNodes([]impl.Instance{boardBy(one, ".1.", "11. 11.", ".1. ...")}), voting(ending(1, 1), 3), impl.ErrTaken)
}

func TestDoStepTellsTheCodesOfOpenNextAndAtNode(t *testing.T) {
	wantStepCode(t, "not decided", impl.NewCluster().Cluster, opening(), impl.ErrState)
	wantStepCode(t, "four of them", newNodes(fullOrder()), opening(), impl.ErrFull)
	wantStep(t, "decided", newNodes(fullOrder()[:2]), opening())
	c := variedCluster()
	for _, n := range slices.Concat([]int64{-1, 3}, wrongNodes, farNumbers) {
		for what := range int64(6) {
			wantStepCode(t, fmt.Sprint("what ", what, " at ", n), c, asking(n, what), impl.ErrRange)
		}
	}
	for _, n := range slices.Concat([]int64{-1, 0, 5, 6}, farNumbers) {
		for node := range int64(3) {
			wantStepCode(t, fmt.Sprint("what ", n, " at ", node), c, asking(node, n), impl.ErrRange)
		}
	}
	wantStepCode(t, "nothing to learn", c, asking(2, 1), impl.ErrNone)
	wantStepCode(t, "nothing to learn in a new one", impl.NewCluster().Cluster, asking(0, 1), impl.ErrNone)
}

// faultySteps have a StepFault, and something beside it that has a code of its own.
func faultySteps() []impl.Step {
	return []impl.Step{{}, {Kind: -1, Node: 3}, {Kind: 6, N: -1}, {Kind: math.MinInt64}, {Kind: math.MaxInt64, Node: math.MaxInt64}, {Kind: 1, Node: 3, N: 1}, {Kind: 1, Node: -1, N: 1, Txn: own(90, put(1, 1))}, {Kind: 1, Vote: report(0, 0, 0)}, {Kind: 1, Txn: own(90), N: 2},
		{Kind: 2, N: 5, Node: 1}, {Kind: 2, N: 0, Txn: own(90, put(1, 1))}, {Kind: 2, N: 1, Vote: ending(0, 1)}, {Kind: 3, Node: 3, Vote: report(0, 3, 0)}, {Kind: 3, N: 3, Vote: report(0, 0, 2), Txn: own(90)},
		{Kind: 4, Node: 3}, {Kind: 4, N: 1}, {Kind: 4, Txn: own(0)}, {Kind: 4, Vote: report(9, 9, 9)}, {Kind: 5, Node: 3, N: 1, Vote: report(0, 0, 0)}, {Kind: 5, Node: 0, N: 9, Txn: own(90, put(1, 1))}}
}

// A StepFault is told ahead of a node, a number, a transaction or a vote that leaves its bounds, and of what the cluster has.
func TestDoStepTellsTheStepFaultSecond(t *testing.T) {
	for i, s := range faultySteps() {
		for j, c := range []impl.Cluster{impl.NewCluster().Cluster, variedCluster(), newNodes(fullOrder()), holding([]impl.Instance{newBoard()}, 8, 8, 8), memoryCluster()} {
			wantStepFault(t, "it is faulty", s, impl.ErrForm)
			wantStepCode(t, fmt.Sprint("step ", i, " at ", j), c, s, impl.ErrForm)
		}
	}
}

// The ClusterFault is told ahead of a StepFault, and of all that right steps tell.
func TestDoStepTellsTheClusterFaultFirst(t *testing.T) {
	steps := slices.Concat(faultySteps(), wholeSteps(), []impl.Step{submitting(3, own(90)), offering(0), voting(report(0, 3, 9), -1), asking(-1, 9)})
	codes := map[int64]int{}
	for i, c := range allClusterCases() {
		s := steps[i%len(steps)]
		wantStepCode(t, fmt.Sprintf("%s, %+v", c.what, s), c.c, s, c.code)
		codes[c.code]++
	}
	for _, s := range steps {
		for _, c := range []impl.Cluster{{}, clusterOf(fullOrder()), newNodes(nil), clusterOf(fullOrder(), make([]impl.Node, 4)...)} {
			wantStepCode(t, fmt.Sprintf("%+v", s), c, s, impl.ErrMany)
		}
		wantStepCode(t, fmt.Sprintf("a node out of its bounds, %+v", s), withNode(newNodes(fullOrder()), 1, impl.Node{Known: 5}), s, impl.ErrRange)
	}
	for _, code := range []int64{impl.ErrForm, impl.ErrMany, impl.ErrRange, impl.ErrTaken, impl.ErrState, impl.ErrVote} {
		if codes[code] == 0 {
			t.Errorf("code %d: none in %v", code, codes)
		}
	}
}
