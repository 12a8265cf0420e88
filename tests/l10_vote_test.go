package tests

import (
	"fmt"
	"math"
	"slices"
	"testing"

	"loop.example/g00631/impl"
)

// Promise 11: a vote is read back from its bytes, and a byte of it that was turned is told; a board is what its votes tell, whatever order they come in, and however often. Here: votes one by one, and their bytes.

func report(round, node, value int64) impl.Vote {
	return impl.Vote{Kind: impl.VoteReport, Round: round, Node: node, Value: value}
}

func proposal(round, node, value int64) impl.Vote {
	return impl.Vote{Kind: impl.VoteProp, Round: round, Node: node, Value: value}
}

func ending(node, value int64) impl.Vote {
	return impl.Vote{Kind: impl.VoteEnd, Node: node, Value: value}
}

// rightVotes are all that there are.
func rightVotes() []impl.Vote {
	var list []impl.Vote
	for node := range int64(3) {
		for round := range int64(4) {
			list = append(list, report(round, node, 0), report(round, node, 1))
			list = append(list, proposal(round, node, 0), proposal(round, node, 1), proposal(round, node, none))
		}
		list = append(list, ending(node, 0), ending(node, 1))
	}
	return list
}

// voteFaultByList holds a vote against all right ones.
func voteFaultByList(v impl.Vote) int64 {
	switch {
	case slices.Contains(rightVotes(), v):
		return impl.OK
	case !slices.Contains([]int64{1, 2, 3}, v.Kind) || v.Kind == 3 && v.Round != 0:
		return impl.ErrForm
	}
	return impl.ErrRange
}

func numbersOfVote(v impl.Vote) []int64 { return []int64{v.Kind, v.Round, v.Node, v.Value} }

// summed has the sum that belongs to data behind it.
func summed(data []byte) []byte {
	sum := sumByPowers(data)
	return append(slices.Clone(data), byte(sum/256), byte(sum%256))
}

func wantVote(t *testing.T, what string, got impl.VoteResult, want impl.Vote) {
	t.Helper()
	if got != (impl.VoteResult{Vote: want}) {
		t.Errorf("%s: got %+v, want %+v", what, got, want)
	}
}

// wantUnread: no vote has these bytes.
func wantUnread(t *testing.T, what string, data []byte) {
	t.Helper()
	if got := impl.ReadVote(data); got != (impl.VoteResult{Code: impl.ErrText}) {
		t.Errorf("%s: got %+v of %v, want ErrText and nothing else", what, got, data)
	}
}

func TestVoteConstants(t *testing.T) {
	if impl.VoteReport != 1 || impl.VoteProp != 2 || impl.VoteEnd != 3 {
		t.Error("a constant is not what the document says")
	}
}

type faultyVote struct {
	what string
	vote impl.Vote
	code int64
}

// voteNamedCases are the edges that the document names, and which code is told where several are so.
func voteNamedCases() []faultyVote {
	form, bounds, right := int64(impl.ErrForm), int64(impl.ErrRange), int64(impl.OK)
	return []faultyVote{
		{"the zero value", impl.Vote{}, form}, {"Kind 0", impl.Vote{Kind: 0, Round: 1, Node: 1, Value: 1}, form}, {"Kind -1", impl.Vote{Kind: -1}, form},
		{"Kind 1", impl.Vote{Kind: 1}, right}, {"Kind 2", impl.Vote{Kind: 2}, right}, {"Kind 3", impl.Vote{Kind: 3}, right}, {"Kind 4", impl.Vote{Kind: 4}, form},
		{"Round -1 of a report", report(-1, 0, 0), bounds}, {"Round 0 of a report", report(0, 0, 0), right}, {"the last Round of a report", report(3, 0, 0), right}, {"one behind it", report(4, 0, 0), bounds},
		{"Round -1 of a proposal", proposal(-1, 0, 0), bounds}, {"Round 0 of a proposal", proposal(0, 0, 0), right}, {"the last Round of a proposal", proposal(3, 0, 0), right}, {"one behind that", proposal(4, 0, 0), bounds},
		{"Round -1 of an end", impl.Vote{Kind: 3, Round: -1}, form}, {"Round 1 of an end", impl.Vote{Kind: 3, Round: 1}, form}, {"Round 3 of an end", impl.Vote{Kind: 3, Round: 3}, form}, {"Round 4 of an end", impl.Vote{Kind: 3, Round: 4}, form},
		{"Node -1", report(0, -1, 0), bounds}, {"Node 0", report(0, 0, 1), right}, {"Node 2", proposal(0, 2, 1), right}, {"Node 3", proposal(0, 3, 1), bounds}, {"Node 3 of an end", ending(3, 0), bounds}, {"Node -1 of an end", ending(-1, 0), bounds},
		{"Value -1 of a report", report(0, 0, -1), bounds}, {"VoteNone of a report", report(0, 0, none), bounds}, {"VoteOpen of a report", report(0, 0, open), bounds},
		{"Value -1 of a proposal", proposal(0, 0, -1), bounds}, {"VoteNone of a proposal", proposal(0, 0, none), right}, {"VoteOpen of a proposal", proposal(0, 0, open), bounds},
		{"Value -1 of an end", ending(0, -1), bounds}, {"VoteNone of an end", ending(0, none), bounds}, {"VoteOpen of an end", ending(0, open), bounds},
		{"no Kind, and all else wrong", impl.Vote{Kind: 4, Round: 4, Node: 3, Value: 3}, form}, {"an end with a Round, and all else wrong", impl.Vote{Kind: 3, Round: 1, Node: 3, Value: 3}, form},
		{"an end of no Node with a Round", impl.Vote{Kind: 3, Round: 4, Node: -1}, form}, {"all but Kind wrong", proposal(4, 3, 3), bounds},
		{"the least numbers", impl.Vote{Kind: math.MinInt64, Round: math.MinInt64, Node: math.MinInt64, Value: math.MinInt64}, form},
		{"the greatest numbers", impl.Vote{Kind: math.MaxInt64, Round: math.MaxInt64, Node: math.MaxInt64, Value: math.MaxInt64}, form},
		{"the least numbers of a report", report(math.MinInt64, math.MinInt64, math.MinInt64), bounds}, {"the greatest numbers of a proposal", proposal(math.MaxInt64, math.MaxInt64, math.MaxInt64), bounds},
	}
}

// nearVotes are all with numbers near their bounds, and with one or two that are far off.
func nearVotes() []impl.Vote {
	var list []impl.Vote
	for kind := int64(-1); kind <= 5; kind++ {
		for round := int64(-2); round <= 5; round++ {
			for node := int64(-2); node <= 4; node++ {
				for value := int64(-2); value <= 5; value++ {
					list = append(list, impl.Vote{Kind: kind, Round: round, Node: node, Value: value})
				}
			}
		}
	}
	for _, n := range append([]int64{256, 257, 1<<32 + 1, 1<<32 + 2, 1<<32 + 3, 3 - 1<<32}, manyInts...) {
		for kind := range int64(4) {
			list = append(list, impl.Vote{Kind: n, Round: kind}, impl.Vote{Kind: kind, Round: n}, impl.Vote{Kind: kind, Node: n}, impl.Vote{Kind: kind, Value: n})
			list = append(list, impl.Vote{Kind: kind, Round: n, Node: n, Value: n}, impl.Vote{Kind: n, Round: n, Node: kind, Value: kind})
		}
	}
	return list
}

func TestVoteFault(t *testing.T) {
	for _, c := range voteNamedCases() {
		wantCode(t, c.what, impl.VoteFault(c.vote), c.code)
	}
	for _, v := range nearVotes() {
		wantCode(t, fmt.Sprintf("%+v", v), impl.VoteFault(v), voteFaultByList(v))
	}
	if count := len(rightVotes()); count != 66 {
		t.Errorf("%d right votes", count)
	}
}

func TestPackVoteByHand(t *testing.T) {
	wantBytes(t, "a report of 0", impl.PackVote(report(0, 0, 0)), 4, 0, 1, 0, 0, 0, 0, 0, 0, 111, 122)
	wantBytes(t, "one with a Round, a Node and a Value", impl.PackVote(proposal(1, 2, none)), 4, 0, 2, 0, 1, 0, 2, 0, 2, 21, 156)
	wantBytes(t, "a sum that is no short number", impl.PackVote(proposal(3, 2, none)), 4, 0, 2, 0, 3, 0, 2, 0, 2, 255, 50)
	wantBytes(t, "an end", impl.PackVote(ending(2, 1)), 4, 0, 3, 0, 0, 0, 2, 0, 1, 41, 214)
}

func TestPackVoteTellsTheVoteFault(t *testing.T) {
	for _, c := range voteNamedCases() {
		if c.code != impl.OK {
			wantBytesCode(t, c.what, impl.PackVote(c.vote), c.code)
		}
	}
	for _, v := range nearVotes() {
		if code := voteFaultByList(v); code != impl.OK {
			wantBytesCode(t, fmt.Sprintf("%+v", v), impl.PackVote(v), code)
		}
	}
}

func TestEveryVoteIsReadBack(t *testing.T) {
	highSums, seen := 0, map[string]impl.Vote{}
	for _, v := range rightVotes() {
		want := summed(packedByHand(numbersOfVote(v)))
		packed := impl.PackVote(v)
		wantBytes(t, fmt.Sprintf("%+v", v), packed, want...)
		wantVote(t, fmt.Sprintf("%+v read back", v), impl.ReadVote(packed.Bytes), v)
		wantVote(t, fmt.Sprintf("%+v by hand", v), impl.ReadVote(want), v)
		if other, ok := seen[string(want)]; ok {
			t.Errorf("%+v and %+v have the same bytes", v, other)
		}
		seen[string(want)] = v
		if want[9] > 127 {
			highSums++
		}
	}
	// A sum is no short number: it may be more than 32767.
	if highSums < 10 || highSums > 56 {
		t.Errorf("%d of the sums are more than 32767", highSums)
	}
}

func TestEveryTurnedByteOfAVoteIsTold(t *testing.T) {
	for _, v := range rightVotes() {
		data := summed(packedByHand(numbersOfVote(v)))
		for at := range data {
			for more := range 255 {
				turned := slices.Clone(data)
				turned[at] += byte(more + 1)
				wantUnread(t, fmt.Sprintf("%+v turned at %d", v, at), turned)
			}
		}
	}
}

func TestReadVoteOfOtherLengths(t *testing.T) {
	wantUnread(t, "nil", nil)
	wantUnread(t, "no bytes", []byte{})
	for _, v := range rightVotes() {
		data := summed(packedByHand(numbersOfVote(v)))
		for length := range data {
			wantUnread(t, fmt.Sprintf("%+v cut to %d", v, length), data[:length])
			wantUnread(t, fmt.Sprintf("%+v from %d on", v, length+1), data[length+1:])
		}
		for b := range 256 {
			wantUnread(t, fmt.Sprintf("%+v with a byte behind it", v), append(slices.Clone(data), byte(b)))
			wantUnread(t, fmt.Sprintf("%+v with a byte ahead of it", v), append([]byte{byte(b)}, data...))
		}
		wantUnread(t, fmt.Sprintf("%+v twice", v), slices.Concat(data, data))
		wantUnread(t, fmt.Sprintf("%+v summed twice", v), summed(data))
	}
	for length := range 600 {
		wantUnread(t, fmt.Sprint(length, " bytes of 0"), make([]byte, length))
		wantUnread(t, fmt.Sprint(length, " bytes of 0 and their sum"), summed(make([]byte, length)))
	}
}

// Numbers that are written in another way, with the sum that belongs to them or that of the right way.
func TestReadVoteOfNumbersInAnotherWay(t *testing.T) {
	for _, v := range rightVotes() {
		numbers := numbersOfVote(v)
		right := packedByHand(numbers)
		what := fmt.Sprintf("%+v: ", v)
		for count := range 41 {
			other := packedByHand(append(slices.Clone(numbers), rampOf(40)...)[:count])
			if count != 4 {
				wantUnread(t, fmt.Sprint(what, count, " numbers"), summed(other))
			}
		}
		wantUnread(t, what+"a number of 0 behind them", summed(packedByHand(append(slices.Clone(numbers), 0))))
		wantUnread(t, what+"no count", summed(right[1:]))
		wantUnread(t, what+"a count in two bytes", summed(append([]byte{0}, right...)))
		wantUnread(t, what+"another count", summed(append([]byte{5}, right[1:]...)))
		wantUnread(t, what+"a byte each", summed([]byte{4, byte(v.Kind), byte(v.Round), byte(v.Node), byte(v.Value)}))
		wantUnread(t, what+"the lower byte first", summed([]byte{4, byte(v.Kind), 0, byte(v.Round), 0, byte(v.Node), 0, byte(v.Value), 0}))
		wantUnread(t, what+"digits", summed(fmt.Append(nil, v.Kind, v.Round, v.Node, v.Value)))
		wantUnread(t, what+"no sum", right)
		sum := sumByPowers(right)
		wantUnread(t, what+"the sum ahead", append([]byte{byte(sum / 256), byte(sum % 256)}, right...))
		wantUnread(t, what+"the sum in four bytes", append(slices.Clone(right), 0, 0, byte(sum/256), byte(sum%256)))
		if sum/256 != sum%256 {
			wantUnread(t, what+"the lower byte of the sum first", append(slices.Clone(right), byte(sum%256), byte(sum/256)))
		}
		wantUnread(t, what+"the sum of nothing", append(slices.Clone(right), 0, 23))
	}
}

// Bytes whose sum is right and whose vote is not.
func TestReadVoteOfVotesWithAFault(t *testing.T) {
	count := 0
	for _, v := range nearVotes() {
		numbers := numbersOfVote(v)
		if voteFaultByList(v) == impl.OK || slices.Min(numbers) < leastShort || slices.Max(numbers) > greatestShort {
			continue
		}
		count++
		wantUnread(t, fmt.Sprintf("%+v", v), summed(packedByHand(numbers)))
	}
	if count < 2000 {
		t.Errorf("%d votes alone", count)
	}
}

// What is read has those bytes and no others, whatever is read.
func TestReadVoteOfDrawnBytes(t *testing.T) {
	d, readCount := drawn(1), 0
	for range 100000 {
		v := rightVotes()[d.below(66)]
		data := summed(packedByHand(numbersOfVote(v)))
		for range d.below(3) {
			data[d.below(11)] = byte(d.below(6))
		}
		if d.below(2) == 0 {
			data = summed(data[:9])
		}
		got := impl.ReadVote(data)
		if got.Code != impl.OK {
			wantUnread(t, "drawn", data)
			continue
		}
		readCount++
		wantBytes(t, fmt.Sprintf("%+v read of drawn bytes", got.Vote), impl.PackVote(got.Vote), data...)
	}
	if readCount < 20000 || readCount > 90000 {
		t.Errorf("%d were read", readCount)
	}
}

func wantSameVotes(t *testing.T, what string, a, b []impl.Vote, want bool) {
	t.Helper()
	if impl.SameVotes(a, b) != want || impl.SameVotes(b, a) != want {
		t.Errorf("%s: SameVotes is not %v", what, want)
	}
}

func TestSameVotes(t *testing.T) {
	lists := [][]impl.Vote{rightVotes(), rightVotes()[:1], rightVotes()[30:33], nearVotes()[:70], {{}, {}, {}}, {report(0, 0, 0), report(0, 0, 0)}}
	for i, list := range lists {
		wantSameVotes(t, fmt.Sprint(i, " and itself"), list, slices.Clone(list), true)
		wantSameVotes(t, fmt.Sprint(i, " and none"), list, nil, false)
		for j, turned := range turnsOf(list) {
			wantSameVotes(t, fmt.Sprint(i, " and turn ", j), list, turned, false)
		}
		for j, other := range lists {
			wantSameVotes(t, fmt.Sprint(i, " and ", j), list, other, i == j)
		}
	}
	wantSameVotes(t, "nil and empty", nil, []impl.Vote{}, true)
	wantSameVotes(t, "nil and nil", nil, nil, true)
	wantSameVotes(t, "nil and a zero value", nil, []impl.Vote{{}}, false)
	a, b := report(0, 0, 0), proposal(3, 2, 2)
	wantSameVotes(t, "in another order", []impl.Vote{a, b}, []impl.Vote{b, a}, false)
	wantSameVotes(t, "how often", []impl.Vote{a, a, b}, []impl.Vote{a, b, b}, false)
	for _, n := range []int64{256, 1 << 32, math.MinInt64, math.MaxInt64} {
		for _, far := range []impl.Vote{{Kind: n}, {Round: n}, {Node: n}, {Value: n}} {
			wantSameVotes(t, fmt.Sprint(far, " and zero"), []impl.Vote{far}, []impl.Vote{{}}, false)
			wantSameVotes(t, fmt.Sprint(far), []impl.Vote{far}, []impl.Vote{far}, true)
		}
	}
}
