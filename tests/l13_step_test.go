package tests

import (
	"fmt"
	"math"
	"slices"
	"testing"

	"loop.example/g00631/impl"
)

// Promise 14: steps that are done in two parts are done as they are in one; what has a code turns nothing; nothing is in the order that nobody asked for. Here: which steps are right.

func submitting(node int64, txn impl.Txn) impl.Step {
	return impl.Step{Kind: impl.DoSubmit, Node: node, Txn: txn}
}

func offering(most int64) impl.Step { return impl.Step{Kind: impl.DoOffer, N: most} }

func voting(v impl.Vote, mask int64) impl.Step {
	return impl.Step{Kind: impl.DoVote, N: mask, Vote: v}
}

func opening() impl.Step { return impl.Step{Kind: impl.DoOpen} }

func asking(node, what int64) impl.Step {
	return impl.Step{Kind: impl.DoNode, Node: node, N: what}
}

// stepParts are all that a step may have beside its Kind.
var stepParts = []string{"Node", "N", "Txn", "Vote"}

// partsOfKind is what the steps of a kind have.
var partsOfKind = map[int64][]string{1: {"Node", "Txn"}, 2: {"N"}, 3: {"N", "Vote"}, 4: {}, 5: {"Node", "N"}}

// withPart is s with one part as in from.
func withPart(s, from impl.Step, part string) impl.Step {
	switch part {
	case "Node":
		s.Node = from.Node
	case "N":
		s.N = from.N
	case "Txn":
		s.Txn = from.Txn
	case "Vote":
		s.Vote = from.Vote
	}
	return s
}

// stepFaultByParts asks part by part whether s is the same without it, and whether its kind has it.
func stepFaultByParts(s impl.Step) int64 {
	parts, isKind := partsOfKind[s.Kind]
	if !isKind {
		return impl.ErrForm
	}
	for _, part := range stepParts {
		without := withPart(s, impl.Step{}, part)
		if !slices.Contains(parts, part) && fmt.Sprintf("%+v", without) != fmt.Sprintf("%+v", s) {
			return impl.ErrForm
		}
	}
	return impl.OK
}

// partValues are steps without a Kind that have one part alone, each with one number of it that is not zero.
func partValues(part string) []impl.Step {
	var list []impl.Step
	for _, n := range slices.Concat([]int64{1, 2, 3, 4, 5, -1}, farNumbers) {
		switch part {
		case "Node":
			list = append(list, impl.Step{Node: n})
		case "N":
			list = append(list, impl.Step{N: n})
		case "Txn":
			for _, txn := range []impl.Txn{{Id: n}, {Session: n}, {Seq: n}, {Acts: []impl.Act{{Kind: n}}}, {Acts: []impl.Act{{Key: n}}}, {Acts: []impl.Act{{Value: n}}}} {
				list = append(list, impl.Step{Txn: txn})
			}
		case "Vote":
			for _, v := range []impl.Vote{{Kind: n}, {Round: n}, {Node: n}, {Value: n}} {
				list = append(list, impl.Step{Vote: v})
			}
		}
	}
	switch part {
	case "Txn":
		list = append(list, impl.Step{Txn: impl.Txn{Acts: make([]impl.Act, 1)}}, impl.Step{Txn: impl.Txn{Acts: make([]impl.Act, 4)}}, impl.Step{Txn: impl.Txn{Acts: make([]impl.Act, 300)}}, impl.Step{Txn: own(1, put(1, 5))})
	case "Vote":
		list = append(list, impl.Step{Vote: report(0, 0, 0)}, impl.Step{Vote: proposal(3, 2, 2)}, impl.Step{Vote: ending(2, 1)})
	}
	return list
}

// wholeSteps have all parts of their kind, and nothing else.
func wholeSteps() []impl.Step {
	return []impl.Step{submitting(1, own(1, put(1, 5))), offering(2), voting(report(0, 1, 1), 3), opening(), asking(1, 4)}
}

func wantStepFault(t *testing.T, what string, s impl.Step, code int64) {
	t.Helper()
	wantCode(t, fmt.Sprintf("%s, %+v", what, s), impl.StepFault(s), code)
}

func TestRunConstants(t *testing.T) {
	if impl.DoSubmit != 1 || impl.DoOffer != 2 || impl.DoVote != 3 || impl.DoOpen != 4 || impl.DoNode != 5 || impl.MaxSteps != 20 {
		t.Error("a constant is not what the document says")
	}
}

// A step may have all that its kind has, whatever it is there, and need not have any of it.
func TestStepFaultOfWhatAKindHas(t *testing.T) {
	for _, s := range wholeSteps() {
		wantStepFault(t, "all parts", s, impl.OK)
		wantStepFault(t, "the Kind alone", impl.Step{Kind: s.Kind}, impl.OK)
		for _, part := range partsOfKind[s.Kind] {
			wantStepFault(t, "without "+part, withPart(s, impl.Step{}, part), impl.OK)
			for _, one := range partValues(part) {
				wantStepFault(t, part+" alone", withPart(impl.Step{Kind: s.Kind}, one, part), impl.OK)
				wantStepFault(t, part+" and the rest", withPart(s, one, part), impl.OK)
			}
		}
	}
	wantStepFault(t, "a mask of nobody", voting(report(0, 0, 0), 0), impl.OK)
	for _, txn := range allTxnCases() {
		wantStepFault(t, txn.what, submitting(3, txn.txn), impl.OK)
	}
	for _, v := range voteNamedCases() {
		wantStepFault(t, v.what, voting(v.vote, -1), impl.OK)
	}
}

// Each thing that a kind has not is told, alone and beside all that it has.
func TestStepFaultOfWhatAKindHasNot(t *testing.T) {
	told := map[string]int{}
	for _, s := range wholeSteps() {
		for _, part := range stepParts {
			if slices.Contains(partsOfKind[s.Kind], part) {
				continue
			}
			for _, one := range partValues(part) {
				wantStepFault(t, part+" alone", withPart(impl.Step{Kind: s.Kind}, one, part), impl.ErrForm)
				wantStepFault(t, part+" and the rest", withPart(s, one, part), impl.ErrForm)
			}
			told[part]++
		}
	}
	for part, kinds := range map[string]int{"Node": 3, "N": 2, "Txn": 4, "Vote": 4} {
		if told[part] != kinds {
			t.Errorf("%s at %d kinds, want %d", part, told[part], kinds)
		}
	}
}

// An empty list of acts is none, like nil.
func TestStepFaultOfNoActs(t *testing.T) {
	empty := impl.Txn{Acts: []impl.Act{}}
	spare := impl.Txn{Acts: []impl.Act{put(1, 5)}[:0]}
	for _, s := range wholeSteps() {
		for _, txn := range []impl.Txn{{}, empty, spare} {
			s.Txn = txn
			wantStepFault(t, "no acts", s, impl.OK)
			wantStepFault(t, "no acts alone", impl.Step{Kind: s.Kind, Txn: txn}, impl.OK)
		}
	}
}

func TestStepFaultOfEveryKind(t *testing.T) {
	far := slices.Concat(manyInts, farNumbers, []int64{-3, -1, 0, 6, 7, 8, 256 + 1, 1<<32 + 5, math.MinInt64 + 1, math.MaxInt64})
	for kind := range int64(5) {
		far = append(far, kind+1)
	}
	for _, kind := range far {
		code := int64(impl.ErrForm)
		if kind >= 1 && kind <= 5 {
			code = impl.OK
		}
		wantStepFault(t, "the Kind alone", impl.Step{Kind: kind}, code)
		for _, s := range wholeSteps() {
			s.Kind = kind
			wantStepFault(t, "all parts of another kind", s, stepFaultByParts(s))
		}
		wantStepFault(t, "all there is", impl.Step{Kind: kind, Node: 1, N: 1, Txn: own(1, put(1, 5)), Vote: report(0, 1, 1)}, impl.ErrForm)
	}
}

// Every set of parts, at every kind and at some that are none.
func TestStepFaultOfEverySetOfParts(t *testing.T) {
	codes := map[int64]int{}
	for kind := int64(-1); kind <= 7; kind++ {
		for set := range 16 {
			s := impl.Step{Kind: kind}
			for at, part := range stepParts {
				if set>>at&1 == 1 {
					values := partValues(part)
					s = withPart(s, values[(set+at)%len(values)], part)
				}
			}
			wantStepFault(t, fmt.Sprint("set ", set), s, stepFaultByParts(s))
			codes[impl.StepFault(s)]++
		}
	}
	if codes[impl.OK] != 4+2+4+1+4 || len(codes) != 2 {
		t.Errorf("codes %v", codes)
	}
}
