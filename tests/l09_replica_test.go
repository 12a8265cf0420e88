package tests

import (
	"fmt"
	"reflect"
	"slices"
	"testing"

	"loop.example/g00631/impl"
)

// Promise 10, of what a replica is: its transactions, and all that comes of them.

// own has names of its own among 99 Ids that follow each other, as ownTxns have them.
func own(id int64, acts ...impl.Act) impl.Txn { return txnOf(id, 1+id%9, 1+id%99, acts...) }

// replicaBy tells by slots what done and tent come to; all of them are right.
func replicaBy(done, tent []impl.Txn) impl.Replica {
	r := impl.Replica{Done: done, Tent: tent}
	var now slots
	for _, txn := range done {
		now, _, _ = now.exec(txn)
	}
	r.Base = now.items()
	for _, txn := range tent {
		then, _, code := now.exec(txn)
		var undo []impl.Undo
		if code == impl.OK {
			undo = now.undosOf(txn)
		}
		now, r.Undos = then, append(r.Undos, undo)
	}
	r.Now = now.items()
	return r
}

// repliesBy tells by slots how each one of lists is answered, one by one from no items on.
func repliesBy(lists ...[]impl.Txn) []impl.ReplyResult {
	var replies []impl.ReplyResult
	var now slots
	for _, txn := range slices.Concat(lists...) {
		then, value, code := now.exec(txn)
		now, replies = then, append(replies, impl.ReplyResult{Answer: code, Value: value})
	}
	return replies
}

func isSameReplica(a, b impl.Replica) bool {
	return reflect.DeepEqual(emptyAsNil(a), emptyAsNil(b))
}

func wantReplica(t *testing.T, what string, got impl.ReplicaResult, answer, value int64, want impl.Replica) {
	t.Helper()
	if got.Code != impl.OK || got.Answer != answer || got.Value != value || !isSameReplica(got.Replica, want) {
		t.Errorf("%s: got %+v, want answer %d, value %d and %+v", what, got, answer, value, want)
	}
}

func wantReplicaCode(t *testing.T, what string, got impl.ReplicaResult, code int64) {
	t.Helper()
	if got.Code != code || got.Answer != 0 || got.Value != 0 || !isSameReplica(got.Replica, impl.Replica{}) {
		t.Errorf("%s: got %+v, want code %d and nothing else", what, got, code)
	}
}

func wantReply(t *testing.T, what string, got, want impl.ReplyResult) {
	t.Helper()
	if got != want {
		t.Errorf("%s: got %+v, want %+v", what, got, want)
	}
}

func wantReplyCode(t *testing.T, what string, got impl.ReplyResult, code int64) {
	t.Helper()
	wantReply(t, what, got, impl.ReplyResult{Code: code})
}

// richReplica has done and guessed what turns much, what turns nothing, and what has a code.
func richReplica() impl.Replica {
	return impl.Replica{
		Done:  []impl.Txn{own(1, put(1, 5), put(2, 6)), own(2, holds(1, 9)), own(3, add(3, 7), remove(2))},
		Base:  []impl.Item{item(1, 5), item(3, 7)},
		Tent:  []impl.Txn{own(4, put(4, 1), add(1, 1), remove(3), holds(4, 1)), own(5, remove(9)), own(6, put(2, 2), put(2, 3)), own(7, holds(4, 1)), own(8, add(1, 1000), holds(4, 2))},
		Undos: [][]impl.Undo{{wasNot(4), was(1, 5), was(3, 7)}, nil, {wasNot(2), was(2, 2)}, nil, nil},
		Now:   []impl.Item{item(1, 6), item(2, 3), item(4, 1)},
	}
}

// rightReplicas are new ones, full ones, and some between.
func rightReplicas() []impl.Replica {
	rich := richReplica()
	list := []impl.Replica{{}, rich, replicaBy(rich.Done, nil), replicaBy(nil, rich.Tent), replicaBy(nil, ownTxns(1, 1)), replicaBy(ownTxns(1, 1), nil)}
	codes := []impl.Txn{own(31, remove(1)), own(32, holds(1, 1)), own(33, put(2, 2), remove(1)), own(34, holds(2, 2)), own(35, remove(2)), own(36, remove(3)), own(37, remove(4)), own(38, remove(5))}
	list = append(list, replicaBy(nil, codes), replicaBy(codes, nil), replicaBy(failingDone(), codes))
	return append(list, replicaBy(ownTxns(1, 16), ownTxns(50, 8)), replicaBy(ownTxns(1, 16), nil), replicaBy(nil, ownTxns(50, 8)))
}

// failingDone come to failingStore.
func failingDone() []impl.Txn {
	var list []impl.Txn
	for id := range int64(5) {
		list = append(list, own(61+id, add(2, 1000), add(2, 1000), add(2, 1000), add(2, 1000)))
	}
	return append(list, own(66, put(4, 400), put(6, 600), put(8, 800), put(10, 1000)),
		own(67, put(12, 1000), add(12, 200), put(14, 1000), add(14, 400)), own(68, put(16, 1000), add(16, 600)))
}

func TestReplicaConstant(t *testing.T) {
	if impl.MaxTent != 8 {
		t.Errorf("MaxTent is %d", impl.MaxTent)
	}
}

// The replica that is written out, and the store that many tests need, are what the slots tell.
func TestReplicasByHandAreRight(t *testing.T) {
	rich := richReplica()
	if by := replicaBy(rich.Done, rich.Tent); !isSameReplica(rich, by) {
		t.Errorf("got %+v, want %+v", rich, by)
	}
	wantSameItems(t, "the store where much fails", replicaBy(failingDone(), nil).Base, failingStore(), true)
	for i, r := range rightReplicas() {
		wantCode(t, fmt.Sprint("right replica ", i), impl.ReplicaFault(r), impl.OK)
	}
}

type faultyReplica struct {
	what    string
	replica impl.Replica
	code    int64
}

// replicaCountCases: too many are told ahead of all that may be wrong beside it.
func replicaCountCases() []faultyReplica {
	var cases []faultyReplica
	for _, done := range []int{0, 1, 2, 8, 9, 15, 16, 17, 18, 24, 40, 41, 49} {
		for _, tent := range []int{0, 1, 2, 7, 8, 9, 10, 16, 24, 40, 41, 49} {
			code := int64(impl.OK)
			if done > 16 || tent > 8 {
				code = impl.ErrMany
			}
			cases = append(cases, faultyReplica{fmt.Sprint(done, " Done, ", tent, " in Tent"), replicaBy(ownTxns(1, done), ownTxns(50, tent)), code})
		}
	}
	for _, count := range []int{17, 256, 256 + 16, 300} {
		cases = append(cases, faultyReplica{fmt.Sprint(count, " of nothing Done"), impl.Replica{Done: make([]impl.Txn, count)}, impl.ErrMany})
	}
	for _, count := range []int{9, 256, 256 + 8, 300} {
		cases = append(cases, faultyReplica{fmt.Sprint(count, " of nothing in Tent"), impl.Replica{Tent: make([]impl.Txn, count)}, impl.ErrMany})
		cases = append(cases, faultyReplica{fmt.Sprint("a fault in Done, ", count, " in Tent"), impl.Replica{Done: make([]impl.Txn, 1), Tent: someTxns(count)}, impl.ErrMany})
	}
	return append(cases,
		faultyReplica{"17 Done, no Base", impl.Replica{Done: ownTxns(1, 17)}, impl.ErrMany},
		faultyReplica{"9 in Tent, no Undos", impl.Replica{Tent: ownTxns(1, 9)}, impl.ErrMany},
		faultyReplica{"9 in Tent, one Done and there too", impl.Replica{Done: ownTxns(1, 1), Tent: ownTxns(1, 9)}, impl.ErrMany})
}

// replicaOf24 has the first 16 of list Done and the others in Tent; all else is as of 24 right ones.
func replicaOf24(list []impl.Txn) impl.Replica {
	r := replicaBy(ownTxns(1, 16), ownTxns(17, 8))
	r.Done, r.Tent = list[:16], list[16:]
	return r
}

func replicaFaultCases() []faultyReplica {
	var cases []faultyReplica
	for _, c := range allTxnCases() {
		if c.code == impl.OK {
			continue
		}
		for _, at := range []int{0, 8, 15, 16, 20, 23} {
			cases = append(cases, faultyReplica{fmt.Sprint(c.what, " at ", at), replicaOf24(withTxn(ownTxns(1, 24), at, c.txn)), c.code})
		}
		cases = append(cases, faultyReplica{c.what + " alone Done", impl.Replica{Done: []impl.Txn{c.txn}}, c.code})
		cases = append(cases, faultyReplica{c.what + " alone in Tent", impl.Replica{Tent: []impl.Txn{c.txn}}, c.code})
	}
	return cases
}

// replicaTakenCases: within Done, within Tent, and across both, at every two places.
func replicaTakenCases() []faultyReplica {
	var cases []faultyReplica
	for second := range 24 {
		for first := range second {
			for _, like := range likenesses() {
				list := ownTxns(1, 24)
				list[second] = like.of(list[first])
				what := fmt.Sprint(like.what, " of ", first, " at ", second)
				if like.names {
					cases = append(cases, faultyReplica{what, replicaBy(list[:16], list[16:]), impl.ErrTaken}, faultyReplica{what + ", the rest wrong", replicaOf24(list), impl.ErrTaken})
				} else {
					cases = append(cases, faultyReplica{what, replicaBy(list[:16], list[16:]), impl.OK})
				}
			}
		}
	}
	return cases
}

// replicaSeveralCases have more than one fault: that of the one ahead is told, and none of these behind ErrState.
func replicaSeveralCases() []faultyReplica {
	list := ownTxns(1, 24)
	wrong := []faultyTxn{{"range", own(0, put(1, 1)), impl.ErrRange}, {"many", own(150), impl.ErrMany}, {"form", own(150, impl.Act{Kind: 9, Key: 1}), impl.ErrForm}, {"twice", list[0], impl.ErrTaken}}
	var cases []faultyReplica
	for _, places := range [][2]int{{1, 2}, {1, 15}, {1, 23}, {14, 15}, {15, 16}, {16, 17}, {16, 23}, {22, 23}} {
		for _, a := range wrong {
			for _, b := range wrong {
				both := withTxn(withTxn(list, places[0], a.txn), places[1], b.txn)
				what := fmt.Sprint(a.what, " at ", places[0], ", ", b.what, " at ", places[1])
				cases = append(cases, faultyReplica{what, replicaOf24(both), a.code}, faultyReplica{what + ", nothing else", impl.Replica{Done: both[:16], Tent: both[16:]}, a.code})
			}
		}
	}
	for at := range 8 {
		twice := own(3, put(21, 0))
		cases = append(cases, faultyReplica{fmt.Sprint("one with a fault that is Done, in Tent at ", at), replicaOf24(withTxn(list, 16+at, twice)), impl.ErrRange})
	}
	return cases
}

// turnsOf are copies of v, each of them turned in one place alone: a number, a bool, or a list that has one more or one less.
func turnsOf[A any](v A) []A {
	var turns []A
	for at := 0; ; at++ {
		turned, left := copied(v).(A), at
		if !turnPlace(reflect.ValueOf(&turned).Elem(), &left) {
			return turns
		}
		turns = append(turns, turned)
	}
}

// turnPlace turns the place of v that has the number left, and tells whether there is one; left is less by those that were passed.
func turnPlace(v reflect.Value, left *int) bool {
	isHere := func() bool {
		*left--
		return *left == -1
	}
	switch v.Kind() {
	case reflect.Int64:
		if isHere() {
			v.SetInt(v.Int() + 1)
			return true
		}
	case reflect.Bool:
		if isHere() {
			v.SetBool(!v.Bool())
			return true
		}
	case reflect.Struct:
		for i := range v.NumField() {
			if turnPlace(v.Field(i), left) {
				return true
			}
		}
	case reflect.Slice:
		return turnList(v, left, isHere)
	default:
		panic(fmt.Sprint("no turn for a ", v.Type()))
	}
	return false
}

func turnList(v reflect.Value, left *int, isHere func() bool) bool {
	for i := range v.Len() {
		if turnPlace(v.Index(i), left) {
			return true
		}
	}
	one := reflect.MakeSlice(v.Type(), 1, 1)
	if isHere() {
		v.Set(reflect.AppendSlice(v, one))
		return true
	}
	if v.Len() == 0 {
		return false
	}
	if isHere() {
		v.Set(v.Slice(0, v.Len()-1))
		return true
	}
	if isHere() {
		one.Index(0).Set(v.Index(0))
		v.Set(reflect.AppendSlice(one, v))
		return true
	}
	return false
}

// replicaStateCases: Base, Undos and Now each turned alone, in every place.
func replicaStateCases() []faultyReplica {
	var cases []faultyReplica
	for i, r := range rightReplicas() {
		for j, base := range turnsOf(r.Base) {
			turned := r
			turned.Base = base
			cases = append(cases, faultyReplica{fmt.Sprint("replica ", i, ", Base by turn ", j), turned, impl.ErrState})
		}
		for j, undos := range turnsOf(r.Undos) {
			turned := r
			turned.Undos = undos
			cases = append(cases, faultyReplica{fmt.Sprint("replica ", i, ", Undos by turn ", j), turned, impl.ErrState})
		}
		for j, now := range turnsOf(r.Now) {
			turned := r
			turned.Now = now
			cases = append(cases, faultyReplica{fmt.Sprint("replica ", i, ", Now by turn ", j), turned, impl.ErrState})
		}
	}
	return cases
}

// replicaNamedCases turn one replica by hand, each in a way that something else of it would bear.
func replicaNamedCases() []faultyReplica {
	var cases []faultyReplica
	lay := func(what string, turn func(r *impl.Replica)) {
		r := copied(richReplica()).(impl.Replica)
		turn(&r)
		cases = append(cases, faultyReplica{what, r, impl.ErrState})
	}
	lay("an item more in Base", func(r *impl.Replica) { r.Base = append(r.Base, item(20, 1)) })
	lay("an item less in Base", func(r *impl.Replica) { r.Base = r.Base[:1] })
	lay("no Base", func(r *impl.Replica) { r.Base = nil })
	lay("another Value in Base", func(r *impl.Replica) { r.Base[0].Value = 9 })
	lay("Base as of what has a code", func(r *impl.Replica) { r.Base[0].Value = 6 })
	lay("Base turned round", func(r *impl.Replica) { slices.Reverse(r.Base) })
	lay("nine items as Base", func(r *impl.Replica) { r.Base = evenItems(9) })
	lay("Base as Now", func(r *impl.Replica) { r.Base = slices.Clone(r.Now) })
	lay("an item more in Now", func(r *impl.Replica) { r.Now = append(r.Now, item(20, 1)) })
	lay("an item less in Now", func(r *impl.Replica) { r.Now = r.Now[1:] })
	lay("another Value in Now", func(r *impl.Replica) { r.Now[2].Value = 2 })
	lay("no Now", func(r *impl.Replica) { r.Now = nil })
	lay("Now as Base", func(r *impl.Replica) { r.Now = slices.Clone(r.Base) })
	lay("nine items as Now", func(r *impl.Replica) { r.Now = evenItems(9) })
	lay("an item more in both", func(r *impl.Replica) { r.Base, r.Now = append(r.Base, item(20, 1)), append(r.Now, item(20, 1)) })
	lay("Base and Now for each other", func(r *impl.Replica) { r.Base, r.Now = r.Now, r.Base })
	lay("no Undos", func(r *impl.Replica) { r.Undos = nil })
	lay("a list of undos less", func(r *impl.Replica) { r.Undos = r.Undos[:4] })
	lay("a list of undos more", func(r *impl.Replica) { r.Undos = append(r.Undos, nil) })
	lay("a list of undos more, ahead", func(r *impl.Replica) { r.Undos = append([][]impl.Undo{nil}, r.Undos...) })
	lay("no list for one that had a code", func(r *impl.Replica) { r.Undos = slices.Delete(r.Undos, 1, 2) })
	lay("undos of one that had a code", func(r *impl.Replica) { r.Undos[4] = []impl.Undo{was(1, 6)} })
	lay("an undo of one that had a code at once", func(r *impl.Replica) { r.Undos[1] = []impl.Undo{wasNot(9)} })
	lay("an undo of a check", func(r *impl.Replica) { r.Undos[3] = []impl.Undo{was(4, 1)} })
	lay("an undo more", func(r *impl.Replica) { r.Undos[0] = append(r.Undos[0], was(4, 1)) })
	lay("an undo less", func(r *impl.Replica) { r.Undos[2] = r.Undos[2][:1] })
	lay("an undo that changes nothing", func(r *impl.Replica) { r.Undos[2] = append(r.Undos[2], was(2, 3)) })
	lay("undos that come to the same", func(r *impl.Replica) { r.Undos[2] = []impl.Undo{wasNot(2)} })
	lay("undos turned round", func(r *impl.Replica) { slices.Reverse(r.Undos[0]) })
	lay("lists of undos turned round", func(r *impl.Replica) { slices.Reverse(r.Undos) })
	lay("five undos", func(r *impl.Replica) { r.Undos[0] = slices.Repeat([]impl.Undo{wasNot(4)}, 5) })
	lay("one of Tent is Done", func(r *impl.Replica) { r.Done, r.Tent = append(r.Done, r.Tent[0]), r.Tent[1:] })
	lay("the last one of Done in Tent", func(r *impl.Replica) { r.Done, r.Tent = r.Done[:2], append(r.Done[2:], r.Tent...) })
	lay("Done in another order", func(r *impl.Replica) { slices.Reverse(r.Done) })
	lay("Tent in another order", func(r *impl.Replica) { r.Tent[0], r.Tent[2] = r.Tent[2], r.Tent[0] })
	lay("another act Done", func(r *impl.Replica) { r.Done[0].Acts[0].Value = 4 })
	lay("another act in Tent", func(r *impl.Replica) { r.Tent[2].Acts[1].Value = 4 })
	lay("one less in Tent, all else as it was", func(r *impl.Replica) { r.Tent = r.Tent[:4] })
	return cases
}

// replicaSameCases: what comes of the transactions is asked, not how they came.
func replicaSameCases() []faultyReplica {
	swapped, empty := richReplica(), richReplica()
	swapped.Done[0], swapped.Done[1] = swapped.Done[1], swapped.Done[0]
	empty.Undos[1], empty.Undos[3] = []impl.Undo{}, []impl.Undo{}
	return []faultyReplica{{"Done in another order that comes to the same", swapped, impl.OK}, {"no undos as empty lists", empty, impl.OK},
		{"empty lists", impl.Replica{Done: []impl.Txn{}, Base: []impl.Item{}, Tent: []impl.Txn{}, Undos: [][]impl.Undo{}, Now: []impl.Item{}}, impl.OK}}
}

func allReplicaCases() []faultyReplica {
	return slices.Concat(replicaCountCases(), replicaFaultCases(), replicaTakenCases(), replicaSeveralCases(), replicaStateCases(), replicaNamedCases(), replicaSameCases())
}

func TestReplicaFault(t *testing.T) {
	for _, c := range allReplicaCases() {
		wantCode(t, c.what, impl.ReplicaFault(c.replica), c.code)
	}
}

// wantReplicaCodes asks every other function, with arguments that are right, and that have codes of their own.
func wantReplicaCodes(t *testing.T, what string, r impl.Replica, code int64) {
	t.Helper()
	for i, txn := range []impl.Txn{own(180, put(1, 1)), ownTxns(1, 1)[0], {}, own(180)} {
		wantReplicaCode(t, fmt.Sprint("OptDeliver ", i, ", ", what), impl.OptDeliver(r, txn), code)
	}
	for i, fresh := range [][]impl.Txn{nil, r.Tent, ownTxns(1, 2), ownTxns(150, 17), {{}}, make([]impl.Txn, 41)} {
		wantReplicaCode(t, fmt.Sprint("Deliver ", i, ", ", what), impl.Deliver(r, fresh), code)
	}
	wantReplicaCode(t, "DropTent "+what, impl.DropTent(r), code)
	for _, txn := range []impl.Txn{ownTxns(1, 1)[0], ownTxns(17, 1)[0], {}} {
		wantReplyCode(t, "FinalOf "+what, impl.FinalOf(r, txn.Session, txn.Seq), code)
		wantReplyCode(t, "TentOf "+what, impl.TentOf(r, txn.Id), code)
	}
}

func TestTheOthersTellTheReplicaFaultFirst(t *testing.T) {
	for _, c := range allReplicaCases() {
		if c.code != impl.OK {
			wantReplicaCodes(t, c.what, c.replica, c.code)
		}
	}
}

func wantSameReplicas(t *testing.T, what string, a, b impl.Replica, want bool) {
	t.Helper()
	if impl.SameReplicas(a, b) != want || impl.SameReplicas(b, a) != want {
		t.Errorf("%s: SameReplicas is not %v", what, want)
	}
}

func TestSameReplicasTellsEveryDifference(t *testing.T) {
	for i, r := range rightReplicas() {
		what := fmt.Sprint("replica ", i)
		wantSameReplicas(t, what, r, copied(r).(impl.Replica), true)
		for j, turned := range turnsOf(r) {
			wantSameReplicas(t, fmt.Sprint(what, ", turn ", j), r, turned, false)
			wantSameReplicas(t, fmt.Sprint(what, ", turn ", j, " and itself"), turned, copied(turned).(impl.Replica), true)
		}
		for j, other := range rightReplicas() {
			wantSameReplicas(t, fmt.Sprint(what, " and ", j), r, other, i == j)
		}
	}
	for _, c := range replicaNamedCases() {
		wantSameReplicas(t, c.what, c.replica, richReplica(), false)
	}
}

// SameReplicas has no code: what has a fault is the same or not as well.
func TestSameReplicasOfFaultyAndEmptyOnes(t *testing.T) {
	wantSameReplicas(t, "nothing", impl.Replica{}, impl.Replica{}, true)
	empty := impl.Replica{Done: []impl.Txn{}, Base: []impl.Item{}, Tent: []impl.Txn{}, Undos: [][]impl.Undo{}, Now: []impl.Item{}}
	wantSameReplicas(t, "nothing and empty lists", impl.Replica{}, empty, true)
	wantSameReplicas(t, "a list that is nil, and one that is empty", impl.Replica{Undos: [][]impl.Undo{nil}}, impl.Replica{Undos: [][]impl.Undo{{}}}, true)
	wantSameReplicas(t, "a list of nothing, and no list", impl.Replica{Undos: [][]impl.Undo{nil}}, impl.Replica{}, false)
	wantSameReplicas(t, "two lists in another order", impl.Replica{Undos: [][]impl.Undo{nil, {wasNot(1)}}}, impl.Replica{Undos: [][]impl.Undo{{wasNot(1)}, nil}}, false)
	fields := []impl.Replica{{}, {Done: ownTxns(1, 1)}, {Tent: ownTxns(1, 1)}, {Base: evenItems(1)}, {Now: evenItems(1)}, {Undos: [][]impl.Undo{{wasNot(2)}}}}
	for i, a := range fields {
		for j, b := range fields {
			wantSameReplicas(t, fmt.Sprint("field ", i, " and field ", j), a, b, i == j)
		}
	}
	for i, c := range allReplicaCases() {
		if i%7 == 0 {
			wantSameReplicas(t, c.what, c.replica, copied(c.replica).(impl.Replica), true)
		}
	}
}
