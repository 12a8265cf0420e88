package tests

import (
	"fmt"
	"reflect"
	"slices"
	"strings"
	"testing"

	"loop.example/g00631/impl"
)

// Promise 7: whatever is said by the rules leaves a board that is right; no two nodes decide otherwise, in whatever rounds, and what was decided was offered; what was decided stays decided. Here: which boards are right, and which are the same.

// rowBy has a vote for each byte: 0, 1, 2 (VoteNone), or a dot (VoteOpen).
func rowBy(text string) []int64 {
	var row []int64
	for _, vote := range text {
		if vote == '.' {
			vote = '3'
		}
		row = append(row, int64(vote-'0'))
	}
	return row
}

// boardBy lays a board: the reports of a round and what was proposed there are told with a blank between.
func boardBy(batch []impl.Txn, decided string, rounds ...string) impl.Instance {
	x := impl.Instance{Has: len(batch) > 0, Batch: batch, Decided: rowBy(decided)}
	for _, text := range rounds {
		reports, props, _ := strings.Cut(text, " ")
		x.Rounds = append(x.Rounds, impl.Round{Reports: rowBy(reports), Props: rowBy(props)})
	}
	return x
}

// fullBoard has all that a board can have: one proposed 1 in the first two rounds, none in the third one, a quorum in the last one.
func fullBoard() impl.Instance {
	return boardBy(someTxns(4), "11.", "110 122", "101 122", "110 222", "011 112")
}

func newBoard() impl.Instance { return boardBy(nil, "...", "... ...") }

// rightBoards are so by the rules, each one in its own way.
func rightBoards() []impl.Instance {
	one := someTxns(1)
	return []impl.Instance{
		newBoard(), fullBoard(),
		boardBy(one, "...", "... ..."), boardBy(someTxns(2), "...", "... ..."), boardBy(someTxns(3), "...", "... ..."), boardBy(someTxns(4), "...", "... ..."),
		boardBy(nil, "...", "0.. ..."), boardBy(nil, "...", "00. 0.."), boardBy(nil, "0..", "00. 00.", "0.. ..."), boardBy(nil, "000", "000 000", "000 000", "000 000", "000 000"),
		boardBy(one, "...", "11. 1.."), boardBy(one, "...", "110 122"), boardBy(one, "..1", "11. 11."), boardBy(one, "111", "111 111"),
		boardBy(one, "...", "10. 22.", "1.. ..."), boardBy(one, "...", "10. 22.", "01. 22."), boardBy(one, "00.", "10. 22.", "00. 00.", "0.. ..."),
		boardBy(one, "..0", "010 020", "00. 00.", "... ..."), boardBy(one, "...", "000 000", "... ...", "... ...", "... ..."),
	}
}

type faultyInstance struct {
	what string
	x    impl.Instance
	code int64
}

func batchCases() []faultyInstance {
	var cases []faultyInstance
	for count, code := range []int64{impl.ErrMany, impl.OK, impl.OK, impl.OK, impl.OK, impl.ErrMany, impl.ErrMany} {
		x := fullBoard()
		x.Batch = someTxns(count)
		cases = append(cases, faultyInstance{fmt.Sprint("has ", count), x, code})
	}
	for _, batch := range [][]impl.Txn{{}, someTxns(60), someTxns(61), make([]impl.Txn, 5), make([]impl.Txn, 256+1)} {
		x := fullBoard()
		x.Batch = batch
		cases = append(cases, faultyInstance{fmt.Sprint("has other ", len(batch)), x, impl.ErrMany})
	}
	for _, batch := range [][]impl.Txn{someTxns(1), someTxns(4), someTxns(5), {{}}, {someTxn(1), someTxn(1)}} {
		x := newBoard()
		x.Batch = batch
		cases = append(cases, faultyInstance{fmt.Sprint("has not, and ", len(batch)), x, impl.ErrForm})
	}
	x := newBoard()
	x.Batch = []impl.Txn{}
	return append(cases, faultyInstance{"has not, and an empty list", x, impl.OK})
}

func batchTxnCases() []faultyInstance {
	var cases []faultyInstance
	for _, c := range allTxnCases() {
		for at := range 4 {
			x := fullBoard()
			for i := range x.Batch {
				x.Batch[i].Id = int64(100 + i)
			}
			x.Batch[at] = c.txn
			cases = append(cases, faultyInstance{fmt.Sprint(c.what, " at ", at), x, c.code})
		}
	}
	for a := range 4 {
		for b := range a {
			x := fullBoard()
			x.Batch[a] = txnOf(x.Batch[b].Id, 9, 9, put(1, 1))
			cases = append(cases, faultyInstance{fmt.Sprint("the Id of ", b, " at ", a), x, impl.ErrTaken})
		}
	}
	return cases
}

func roundCountCases() []faultyInstance {
	var cases []faultyInstance
	for _, count := range []int{0, 1, 2, 3, 4, 5, 6, 256 + 1} {
		code := int64(impl.ErrMany)
		if count >= 1 && count <= 4 {
			code = impl.OK
		}
		cases = append(cases, faultyInstance{fmt.Sprint(count, " rounds"), boardBy(nil, "...", slices.Repeat([]string{"... ..."}, count)...), code})
	}
	x := newBoard()
	x.Rounds = []impl.Round{}
	return append(cases, faultyInstance{"an empty list of rounds", x, impl.ErrMany}, faultyInstance{"the zero value", impl.Instance{}, impl.ErrMany})
}

// rowCases have a row with a fault at each of the places where rows stand.
func rowCases() []faultyInstance {
	var cases []faultyInstance
	for _, c := range faultsBy(1) {
		for round := range 4 {
			x := fullBoard()
			x.Rounds[round].Reports = c.votes
			cases = append(cases, faultyInstance{fmt.Sprint("reports of ", round, ": ", c.what), x, c.code})
		}
		x := fullBoard()
		x.Decided = c.votes
		cases = append(cases, faultyInstance{"decided: " + c.what, x, c.code})
	}
	for _, c := range faultsBy(2) {
		for round := range 4 {
			x := fullBoard()
			x.Rounds[round].Props = c.votes
			cases = append(cases, faultyInstance{fmt.Sprint("proposed in ", round, ": ", c.what), x, c.code})
		}
	}
	return cases
}

// saidCases have one thing each that may not be said, or nearly so.
func saidCases() []faultyInstance {
	one := someTxns(1)
	wrong, right := int64(impl.ErrVote), int64(impl.OK)
	return []faultyInstance{
		{"a first report of 1 without a batch", boardBy(nil, "...", "1.. ..."), wrong},
		{"the last node's", boardBy(nil, "...", "001 ..."), wrong},
		{"a first report of 1", boardBy(one, "...", "1.. ..."), right},
		{"proposed without a report", boardBy(one, "...", "11. ..1"), wrong},
		{"proposed by who reported", boardBy(one, "...", "111 ..1"), right},
		{"proposed without a report, in the last round", boardBy(one, "...", "01. 22.", "01. 22.", "01. 22.", "11. ..1"), wrong},
		{"proposed what one reported alone", boardBy(one, "...", "1.. 1.."), wrong},
		{"proposed what one of three reported", boardBy(one, "...", "110 ..0"), wrong},
		{"proposed what nobody reported", boardBy(one, "...", "000 1.."), wrong},
		{"none proposed where all reported alike", boardBy(one, "...", "111 .2."), wrong},
		{"none proposed where two reported otherwise", boardBy(one, "...", "101 .2."), right},
		{"proposed by others whom one need not be among", boardBy(one, "...", "110 ..1"), right},
		{"reported without a proposal ahead", boardBy(one, "...", "11. 11.", "..1 ..."), wrong},
		{"reported without a proposal ahead, in the last round", boardBy(one, "...", "01. 22.", "01. 22.", "01. 22.", "..0 ..."), wrong},
		{"reported with one", boardBy(one, "...", "111 111", "..1 ..."), right},
		{"reported what was not proposed", boardBy(one, "...", "111 111", "..0 ..."), wrong},
		{"reported what one quorum has not heard", boardBy(one, "...", "110 122", "..0 ..."), right},
		{"reported by one proposal alone", boardBy(one, "...", "11. 1..", "1.. ..."), wrong},
		{"reported otherwise by another round's proposals", boardBy(one, "...", "110 122", "111 111", "..0 ..."), wrong},
		{"a coin of 1", boardBy(one, "...", "01. 22.", "11. ..."), right},
		{"a coin of 1 that one did not hear of alone", boardBy(one, "...", "001 022", ".1. ..."), right},
		{"none proposed without a batch, and a coin of 0", boardBy(nil, "...", "00. 22.", "0.. ..."), wrong},
		{"none proposed without a batch, and a coin of 1", boardBy(nil, "...", "00. 22.", "1.. ..."), wrong},
		{"0 without a batch", boardBy(nil, "...", "00. 00.", "0.. ..."), right},
		{"1 without a batch where 0 was proposed", boardBy(nil, "...", "00. 00.", "1.. ..."), wrong},
		{"1 without a batch behind two rounds", boardBy(nil, "...", "000 000", "000 000", "1.. ..."), wrong},
		{"decided what nobody proposed", boardBy(one, "1..", "11. ..."), wrong},
		{"decided what one proposed", boardBy(one, "1..", "11. 1.."), wrong},
		{"decided what two proposed", boardBy(one, "1..", "11. 11."), right},
		{"decided the other one", boardBy(one, "0..", "11. 11."), wrong},
		{"decided both", boardBy(one, "1.0", "11. 11."), wrong},
		{"decided by who said nothing", boardBy(one, "..1", "11. 11."), right},
		{"decided what one proposed in each of two rounds", boardBy(one, "1..", "110 122", "110 12."), wrong},
		{"decided what two proposed in an inner round", boardBy(one, ".1.", "01. 22.", "11. 11.", "1.. ..."), right},
		{"decided what two proposed in the last round", boardBy(one, "..0", "01. 22.", "01. 22.", "01. 22.", "00. 00."), right},
		{"decided where none was proposed twice", boardBy(one, "0..", "01. 22."), wrong},
	}
}

func allInstanceCases() []faultyInstance {
	var cases []faultyInstance
	for i, x := range rightBoards() {
		cases = append(cases, faultyInstance{fmt.Sprint("right board ", i), x, impl.OK})
	}
	return slices.Concat(cases, batchCases(), batchTxnCases(), roundCountCases(), rowCases(), saidCases(), severalFaults())
}

// faultTurn makes a fault of a fullBoard; of several turns the first one is told.
type faultTurn struct {
	what string
	code int64
	turn func(x *impl.Instance)
}

func rowTurns(what string, row func(x *impl.Instance) *[]int64) []faultTurn {
	return []faultTurn{
		{what + " of four", impl.ErrMany, func(x *impl.Instance) { *row(x) = append(slices.Clone(*row(x)), 0) }},
		{what + " of two", impl.ErrMany, func(x *impl.Instance) { *row(x) = (*row(x))[:2] }},
		{what + " with a 4", impl.ErrRange, func(x *impl.Instance) { (*row(x))[1] = 4 }},
	}
}

// faultTurns are in the order in which they are asked; those of one place stand together.
func faultTurns() [][]faultTurn {
	turns := [][]faultTurn{
		{{"not Has", impl.ErrForm, func(x *impl.Instance) { x.Has = false }}},
		{{"five", impl.ErrMany, func(x *impl.Instance) { x.Batch = append(x.Batch, someTxn(9)) }}},
		{{"no Id", impl.ErrRange, func(x *impl.Instance) { x.Batch[0].Id = 0 }}, {"the form of an act", impl.ErrForm, func(x *impl.Instance) { x.Batch[0].Acts[0].Kind = 5 }}},
		{{"no acts", impl.ErrMany, func(x *impl.Instance) { x.Batch[1].Acts = nil }}},
		{{"an Id twice", impl.ErrTaken, func(x *impl.Instance) { x.Batch[3].Id = x.Batch[2].Id }}},
		{{"five rounds", impl.ErrMany, func(x *impl.Instance) { x.Rounds = append(x.Rounds, x.Rounds[0]) }}},
	}
	for round := range 4 {
		turns = append(turns, rowTurns(fmt.Sprint("reports of ", round), func(x *impl.Instance) *[]int64 { return &x.Rounds[round].Reports }))
		turns = append(turns, rowTurns(fmt.Sprint("proposals of ", round), func(x *impl.Instance) *[]int64 { return &x.Rounds[round].Props }))
	}
	turns = append(turns, rowTurns("decided", func(x *impl.Instance) *[]int64 { return &x.Decided }))
	return append(turns, []faultTurn{{"a first proposal", impl.ErrVote, func(x *impl.Instance) { x.Rounds[0].Props[0] = 0 }}})
}

// severalFaults have two each, and some all of them behind one.
func severalFaults() []faultyInstance {
	var cases []faultyInstance
	turns := faultTurns()
	for i, firsts := range turns {
		for _, first := range firsts {
			for _, seconds := range turns[i+1:] {
				for _, second := range seconds {
					x := fullBoard()
					second.turn(&x)
					first.turn(&x)
					cases = append(cases, faultyInstance{first.what + ", then " + second.what, x, first.code})
				}
			}
			all := fullBoard()
			for _, seconds := range slices.Backward(turns[i+1:]) {
				seconds[len(seconds)-1].turn(&all)
			}
			first.turn(&all)
			cases = append(cases, faultyInstance{first.what + ", then all others", all, first.code})
		}
	}
	return cases
}

func TestInstanceConstants(t *testing.T) {
	if impl.MaxRounds != 4 {
		t.Errorf("MaxRounds is %d", impl.MaxRounds)
	}
}

func TestInstanceFault(t *testing.T) {
	for _, c := range allInstanceCases() {
		wantCode(t, c.what, impl.InstanceFault(c.x), c.code)
	}
}

// isSaidByRules tells the last codes of InstanceFault by counts, one by one as the chapter names them.
func isSaidByRules(x impl.Instance) bool {
	for r, round := range x.Rounds {
		for n, report := range round.Reports {
			prop := round.Props[n]
			if r == 0 && report == 1 && !x.Has || prop != open && (report == open || !mayProposeByCounts(round.Reports, prop)) {
				return false
			}
			if r == 0 || report == open {
				continue
			}
			ahead := x.Rounds[r-1].Props
			if ahead[n] == open || !mayReportByCounts(ahead, report) || report == 1 && countIn(ahead, 1) == 0 && !x.Has {
				return false
			}
		}
	}
	for _, value := range x.Decided {
		if value != open && !slices.ContainsFunc(x.Rounds, func(r impl.Round) bool { return countIn(r.Props, value) >= 2 }) {
			return false
		}
	}
	return true
}

// wantRuled: x has no fault of form, and so is wrong where something may not be said, and then alone.
func wantRuled(t *testing.T, x impl.Instance) {
	t.Helper()
	want := int64(impl.OK)
	if !isSaidByRules(x) {
		want = impl.ErrVote
	}
	if got := impl.InstanceFault(x); got != want {
		t.Errorf("%+v: got code %d, want %d", x, got, want)
	}
	if want == impl.OK {
		wantAgreed(t, "a board without a fault", x)
	}
}

func TestInstanceFaultOfEveryFirstRound(t *testing.T) {
	for _, batch := range [][]impl.Txn{nil, someTxns(1)} {
		for _, reports := range reportRows() {
			for _, props := range propRows() {
				for _, decided := range reportRows() {
					wantRuled(t, impl.Instance{Has: batch != nil, Batch: batch, Rounds: []impl.Round{{Reports: reports, Props: props}}, Decided: decided})
				}
			}
		}
	}
}

// Behind first rounds of all kinds: every second one.
func TestInstanceFaultOfEverySecondRound(t *testing.T) {
	for _, batch := range [][]impl.Txn{nil, someTxns(1)} {
		for _, first := range []string{"000 000", "011 111", "011 112", "011 222", "011 122", "001 022", "001 020", "00. 00.", "01. 22.", "01. 2..", "1.1 1.1", "... ..."} {
			for _, reports := range reportRows() {
				for _, props := range propRows() {
					x := boardBy(batch, "...", first)
					x.Rounds = append(x.Rounds, impl.Round{Reports: reports, Props: props})
					wantRuled(t, x)
				}
			}
		}
	}
}

// A right board with any vote of it turned is right or wrong by the rules.
func TestInstanceFaultOfEveryTurnedVote(t *testing.T) {
	for _, x := range append(rightBoards(), drawnBoards(40)...) {
		for i := range votePlaces(&x) {
			for vote := range int64(4) {
				y := copied(x).(impl.Instance)
				place := votePlaces(&y)[i]
				*place.vote = vote
				if vote == none && !place.isProp {
					wantCode(t, fmt.Sprint("VoteNone at ", i), impl.InstanceFault(y), impl.ErrRange)
					continue
				}
				wantRuled(t, y)
			}
		}
	}
}

type votePlace struct {
	vote   *int64
	isProp bool
}

func votePlaces(x *impl.Instance) []votePlace {
	var places []votePlace
	for _, round := range x.Rounds {
		for n := range round.Reports {
			places = append(places, votePlace{&round.Reports[n], false}, votePlace{&round.Props[n], true})
		}
	}
	for n := range x.Decided {
		places = append(places, votePlace{&x.Decided[n], false})
	}
	return places
}

func TestNewInstance(t *testing.T) {
	got := impl.NewInstance()
	if want := (impl.InstanceResult{Instance: newBoard()}); !reflect.DeepEqual(emptyAsNil(got), emptyAsNil(want)) {
		t.Errorf("got %+v, want %+v", got, want)
	}
	wantCode(t, "a new one", impl.InstanceFault(got.Instance), impl.OK)
}

func wantSameInstances(t *testing.T, what string, a, b impl.Instance, want bool) {
	t.Helper()
	if impl.SameInstances(a, b) != want || impl.SameInstances(b, a) != want {
		t.Errorf("%s: SameInstances is not %v", what, want)
	}
}

// instanceTurns change one place each.
func instanceTurns() []func(x *impl.Instance) {
	return []func(x *impl.Instance){
		func(x *impl.Instance) { x.Has = !x.Has },
		func(x *impl.Instance) { x.Batch = nil },
		func(x *impl.Instance) { x.Batch = x.Batch[:3] },
		func(x *impl.Instance) { x.Batch = append(x.Batch, someTxn(5)) },
		func(x *impl.Instance) { x.Batch[3].Id = 7 },
		func(x *impl.Instance) { x.Batch[0].Session++ },
		func(x *impl.Instance) { x.Batch[1].Seq++ },
		func(x *impl.Instance) { x.Batch[2].Acts = x.Batch[2].Acts[:3] },
		func(x *impl.Instance) { x.Batch[3].Acts[3].Value++ },
		func(x *impl.Instance) { x.Batch[0].Acts[1].Kind = 1 },
		func(x *impl.Instance) { x.Batch[0], x.Batch[1] = x.Batch[1], x.Batch[0] },
		func(x *impl.Instance) { x.Rounds = nil },
		func(x *impl.Instance) { x.Rounds = x.Rounds[:3] },
		func(x *impl.Instance) { x.Rounds = x.Rounds[1:] },
		func(x *impl.Instance) { x.Rounds = append(x.Rounds, impl.Round{}) },
		func(x *impl.Instance) { x.Rounds[0], x.Rounds[1] = x.Rounds[1], x.Rounds[0] },
		func(x *impl.Instance) {
			x.Rounds[2].Reports, x.Rounds[2].Props = x.Rounds[2].Props, x.Rounds[2].Reports
		},
		func(x *impl.Instance) { x.Rounds[3].Reports = nil },
		func(x *impl.Instance) { x.Rounds[3].Props = x.Rounds[3].Props[:2] },
		func(x *impl.Instance) { x.Rounds[0].Props = append(x.Rounds[0].Props, 3) },
		func(x *impl.Instance) { x.Decided = nil },
		func(x *impl.Instance) { x.Decided = x.Decided[:2] },
		func(x *impl.Instance) { x.Decided = append(x.Decided, 1) },
	}
}

func TestSameInstancesTellsEveryDifference(t *testing.T) {
	variants := []impl.Instance{fullBoard(), newBoard(), {}}
	for _, turn := range instanceTurns() {
		x := fullBoard()
		turn(&x)
		variants = append(variants, x)
	}
	full := fullBoard()
	for i := range votePlaces(&full) {
		for _, vote := range []int64{4, -1, 1 << 32} {
			x := fullBoard()
			*votePlaces(&x)[i].vote = vote
			variants = append(variants, x)
		}
	}
	for i, a := range variants {
		for j, b := range variants {
			wantSameInstances(t, fmt.Sprint(i, " and ", j), a, copied(b).(impl.Instance), i == j)
		}
	}
}

// SameInstances has no code: what has a fault is the same or not as well, and nil is empty wherever it stands.
func TestSameInstancesOfFaultyAndEmptyOnes(t *testing.T) {
	for _, c := range allInstanceCases() {
		wantSameInstances(t, c.what, c.x, copied(c.x).(impl.Instance), true)
		wantSameInstances(t, c.what+", nil for empty", c.x, swapEmpty(c.x), true)
	}
	empty := impl.Instance{Batch: []impl.Txn{}, Rounds: []impl.Round{}, Decided: []int64{}}
	wantSameInstances(t, "nothing", impl.Instance{}, empty, true)
	wantSameInstances(t, "empty rows", impl.Instance{Rounds: []impl.Round{{}}}, impl.Instance{Rounds: []impl.Round{{Reports: []int64{}, Props: []int64{}}}}, true)
	wantSameInstances(t, "a round of nothing", impl.Instance{Rounds: []impl.Round{{}}}, impl.Instance{}, false)
}
