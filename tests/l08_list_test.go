package tests

import (
	"fmt"
	"math"
	"slices"
	"testing"

	"loop.example/g00631/impl"
)

// Promise 9, of lists: which ones are right, and whom they have; and promise 8: what DefiniteOf answers is such a list.

type faultyList struct {
	what string
	list []impl.Txn
	code int64
}

func withTxn(list []impl.Txn, at int, txn impl.Txn) []impl.Txn {
	list = slices.Clone(list)
	list[at] = txn
	return list
}

// listCountCases: more than 40 are too many, whatever they are.
func listCountCases() []faultyList {
	cases := []faultyList{{"nil", nil, impl.OK}, {"an empty list", []impl.Txn{}, impl.OK}}
	for _, count := range []int{1, 2, 8, 16, 20, 39, 40} {
		cases = append(cases, faultyList{fmt.Sprint(count), ownTxns(1, count), impl.OK})
	}
	for _, count := range []int{41, 42, 60, 61, 99, 256, 256 + 1, 256 + 40, 300} {
		cases = append(cases, faultyList{fmt.Sprint(count, " of one request"), someTxns(count), impl.ErrMany})
		cases = append(cases, faultyList{fmt.Sprint(count, " of nothing"), make([]impl.Txn, count), impl.ErrMany})
	}
	for _, count := range []int{41, 42, 60, 61, 99} {
		cases = append(cases, faultyList{fmt.Sprint(count), ownTxns(1, count), impl.ErrMany})
	}
	for _, at := range []int{0, 20, 39, 40} {
		cases = append(cases, faultyList{fmt.Sprint("41, nothing at ", at), withTxn(ownTxns(1, 41), at, impl.Txn{}), impl.ErrMany})
		cases = append(cases, faultyList{fmt.Sprint("41, one twice at ", at), withTxn(ownTxns(1, 41), at, ownTxns(1, 41)[40-at]), impl.ErrMany})
	}
	return cases
}

// listFaultCases have one TxnFault each; where such a one also has the names of one ahead, the TxnFault is asked first.
func listFaultCases() []faultyList {
	var cases []faultyList
	for _, c := range allTxnCases() {
		cases = append(cases, faultyList{c.what + " alone", []impl.Txn{c.txn}, c.code})
		if c.code == impl.OK {
			continue
		}
		for _, at := range []int{0, 1, 20, 39} {
			cases = append(cases, faultyList{fmt.Sprint(c.what, " at ", at, " of 40"), withTxn(ownTxns(1, 40), at, c.txn), c.code})
			cases = append(cases, faultyList{fmt.Sprint(c.what, " at ", at, ", the end"), append(ownTxns(50, at), c.txn), c.code})
		}
	}
	return cases
}

// likeness is a transaction that has names of another one of ownTxns(1, 40), and of no others of these.
type likeness struct {
	what  string
	of    func(txn impl.Txn) impl.Txn
	names bool // whether the two stand for each other
}

func likenesses() []likeness {
	return []likeness{
		{"the same one", func(txn impl.Txn) impl.Txn { return txn }, true},
		{"all names, another act", func(txn impl.Txn) impl.Txn { return named(txn.Id, txn.Session, txn.Seq, 1000) }, true},
		{"the Id alone", func(txn impl.Txn) impl.Txn { return named(txn.Id, 9, 99, 0) }, true},
		{"the Id and the Session", func(txn impl.Txn) impl.Txn { return named(txn.Id, txn.Session, 99, 0) }, true},
		{"the Id and the Seq", func(txn impl.Txn) impl.Txn { return named(txn.Id, 1+txn.Session%9, txn.Seq, 0) }, true},
		{"Session and Seq under another Id", func(txn impl.Txn) impl.Txn { return named(200, txn.Session, txn.Seq, 0) }, true},
		{"the same request, the same acts", func(txn impl.Txn) impl.Txn { return txnOf(199, txn.Session, txn.Seq, txn.Acts...) }, true},
		{"the Session alone", func(txn impl.Txn) impl.Txn { return named(200, txn.Session, 99, 0) }, false},
		{"the Seq alone", func(txn impl.Txn) impl.Txn { return named(200, 1+txn.Session%9, txn.Seq, 0) }, false},
		{"the acts alone", func(txn impl.Txn) impl.Txn { return txnOf(200, 9, 99, txn.Acts...) }, false},
		{"nothing", func(txn impl.Txn) impl.Txn { return named(200, 9, 99, 0) }, false},
	}
}

// listTakenCases: one of 40 has names of another one, at every two places.
func listTakenCases() []faultyList {
	var cases []faultyList
	for second := range 40 {
		for first := range second {
			for _, like := range likenesses() {
				code := int64(impl.OK)
				if like.names {
					code = impl.ErrTaken
				}
				list := ownTxns(1, 40)
				list[second] = like.of(list[first])
				cases = append(cases, faultyList{fmt.Sprint(like.what, " of ", first, " at ", second), list, code})
			}
		}
	}
	return cases
}

// listSeveralCases have more than one fault: that of the one ahead is told.
func listSeveralCases() []faultyList {
	list := ownTxns(1, 40)
	head, none, form := txnOf(0, 1, 1, put(1, 1)), txnOf(150, 1, 1), txnOf(150, 1, 1, impl.Act{Kind: 9, Key: 1})
	wrong := []faultyTxn{{"range", head, impl.ErrRange}, {"many", none, impl.ErrMany}, {"form", form, impl.ErrForm}, {"twice", list[0], impl.ErrTaken}, {"nothing", impl.Txn{}, impl.ErrRange}}
	var cases []faultyList
	for _, places := range [][2]int{{1, 2}, {1, 39}, {19, 20}, {20, 39}, {38, 39}} {
		for _, a := range wrong {
			for _, b := range wrong {
				both := withTxn(withTxn(list, places[0], a.txn), places[1], b.txn)
				cases = append(cases, faultyList{fmt.Sprint(a.what, " at ", places[0], ", ", b.what, " at ", places[1]), both, a.code})
			}
		}
	}
	for _, act := range []impl.Act{{Kind: 5, Key: 1}, put(21, 0)} {
		twice := txnOf(list[3].Id, list[3].Session, list[3].Seq, act)
		cases = append(cases, faultyList{fmt.Sprint("one twice that has a fault: ", act), withTxn(list, 7, twice), impl.TxnFault(twice)})
	}
	return cases
}

func allListCases() []faultyList {
	return slices.Concat(listCountCases(), listFaultCases(), listTakenCases(), listSeveralCases())
}

func TestListFault(t *testing.T) {
	for _, c := range allListCases() {
		wantCode(t, c.what, impl.ListFault(c.list), c.code)
	}
}

func TestListFaultByHand(t *testing.T) {
	a, b, c := named(1, 2, 3, 0), named(2, 2, 4, 0), named(3, 3, 3, 0)
	wantCode(t, "three", impl.ListFault([]impl.Txn{a, b, c}), impl.OK)
	wantCode(t, "one Id", impl.ListFault([]impl.Txn{a, b, named(1, 9, 9, 0)}), impl.ErrTaken)
	wantCode(t, "one Session and Seq", impl.ListFault([]impl.Txn{a, b, named(9, 2, 4, 0)}), impl.ErrTaken)
	wantCode(t, "the Session of one and the Seq of another", impl.ListFault([]impl.Txn{b, c, named(9, 3, 4, 0)}), impl.OK)
	wantCode(t, "Session and Seq the other way round", impl.ListFault([]impl.Txn{b, named(9, 4, 2, 0)}), impl.OK)
	wantCode(t, "an Id that is a Session, and a Seq", impl.ListFault([]impl.Txn{c, named(2, 1, 1, 0)}), impl.OK)
	wantCode(t, "twice, then a fault", impl.ListFault([]impl.Txn{a, a, {}}), impl.ErrTaken)
	wantCode(t, "a fault, then twice", impl.ListFault([]impl.Txn{a, {}, a}), impl.ErrRange)
	wantCode(t, "nothing twice", impl.ListFault([]impl.Txn{{}, {}}), impl.ErrRange)
}

// One list leaves nothing for the next one to be held against.
func TestListFaultForgets(t *testing.T) {
	for range 3 {
		wantCode(t, "40", impl.ListFault(ownTxns(1, 40)), impl.OK)
		wantCode(t, "twice", impl.ListFault(append(ownTxns(1, 3), ownTxns(3, 1)...)), impl.ErrTaken)
	}
}

// The order that counts has nobody twice, and nobody with a fault (promise 8).
func TestDefiniteOfIsAListWithoutAFault(t *testing.T) {
	for i, list := range rightOrders() {
		wantDefiniteLists(t, fmt.Sprint("right order ", i), list)
	}
	for seed := range 12 {
		wantDefiniteLists(t, fmt.Sprint("grown order ", seed), grownOrder(seed, func([]impl.Instance, impl.OrderResult) {}))
	}
	first, byId, byRequest := named(1, 2, 3, 10), named(1, 7, 7, 11), named(9, 2, 3, 12)
	wantDefiniteLists(t, "one by its Id", inBatches([]impl.Txn{first}, []impl.Txn{byId}))
	wantDefiniteLists(t, "one by its Session and Seq", inBatches([]impl.Txn{first, byRequest}))
	wantDefiniteLists(t, "both", inBatches([]impl.Txn{byId, byRequest}, []impl.Txn{first}, []impl.Txn{byRequest, first}))
	wantDefiniteLists(t, "the same four times", inBatches(ownTxns(1, 4), ownTxns(1, 4), ownTxns(1, 4), ownTxns(1, 4)))
	sixteen := impl.DefiniteOf(inBatches(ownTxns(1, 4), ownTxns(5, 4), ownTxns(9, 4), ownTxns(13, 4)), 4).Txns
	wantInt(t, "16 of their own", impl.CommonOf(sixteen, ownTxns(1, 16)), 16)
}

func wantDefiniteLists(t *testing.T, what string, list []impl.Instance) {
	t.Helper()
	for n := range impl.DecidedIn(list).Value + 1 {
		wantCode(t, fmt.Sprint(what, ", the first ", n), impl.ListFault(impl.DefiniteOf(list, n).Txns), impl.OK)
	}
}

func TestHasTxn(t *testing.T) {
	list := ownTxns(1, 40)
	for at, txn := range list {
		for _, like := range likenesses() {
			wantBool(t, fmt.Sprint(like.what, " of ", at), impl.HasTxn(list, like.of(txn)), like.names)
		}
		wantBool(t, fmt.Sprint(at, " among those ahead"), impl.HasTxn(list[:at], txn), false)
		wantBool(t, fmt.Sprint(at, " among those behind"), impl.HasTxn(list[at+1:], txn), false)
		wantBool(t, fmt.Sprint(at, " alone"), impl.HasTxn(list[at:at+1], txn), true)
	}
	for _, txn := range []impl.Txn{{}, someTxn(1), ownTxns(1, 1)[0]} {
		wantBool(t, "among nil", impl.HasTxn(nil, txn), false)
		wantBool(t, "among none", impl.HasTxn([]impl.Txn{}, txn), false)
	}
}

func TestHasTxnByHand(t *testing.T) {
	list := []impl.Txn{named(1, 2, 3, 0), named(4, 5, 6, 0)}
	wantBool(t, "the Id of the one, the request of the other", impl.HasTxn(list, named(1, 5, 6, 9)), true)
	wantBool(t, "the Session of the one, the Seq of the other", impl.HasTxn(list, named(9, 2, 6, 0)), false)
	wantBool(t, "the Seq of the one, the Session of the other", impl.HasTxn(list, named(9, 5, 3, 0)), false)
	wantBool(t, "Session and Seq the other way round", impl.HasTxn(list, named(9, 3, 2, 0)), false)
	wantBool(t, "a Seq as the Id", impl.HasTxn(list, named(3, 1, 1, 0)), false)
	wantBool(t, "an Id as the Session", impl.HasTxn(list, named(9, 4, 6, 0)), false)
}

// HasTxn asks no fault, neither of the list nor of the one.
func TestHasTxnOfFaultyOnes(t *testing.T) {
	wantBool(t, "the last one of 300", impl.HasTxn(append(ownTxns(1, 40), make([]impl.Txn, 260)...), impl.Txn{Id: 300}), true)
	wantBool(t, "one behind 40", impl.HasTxn(ownTxns(1, 99), ownTxns(99, 1)[0]), true)
	wantBool(t, "not among 99", impl.HasTxn(ownTxns(1, 99), named(100, 9, 98, 0)), false)
	wantBool(t, "nothing among nothing", impl.HasTxn([]impl.Txn{{}}, impl.Txn{}), true)
	wantBool(t, "without an act", impl.HasTxn(ownTxns(1, 3), impl.Txn{Id: 2}), true)
	wantBool(t, "behind a faulty one", impl.HasTxn([]impl.Txn{{Id: -1, Session: -1}, named(7, 8, 9, 0)}, named(7, 1, 1, 0)), true)
	wantBool(t, "behind one that stands twice", impl.HasTxn([]impl.Txn{named(1, 1, 1, 0), named(1, 1, 1, 0), named(7, 8, 9, 0)}, named(2, 8, 9, 0)), true)
	wantBool(t, "great numbers", impl.HasTxn([]impl.Txn{{Id: math.MaxInt64, Session: math.MinInt64, Seq: 1}}, impl.Txn{Session: math.MinInt64, Seq: 1}), true)
	wantBool(t, "numbers that differ by a power of 2", impl.HasTxn([]impl.Txn{{Id: 1, Session: 1, Seq: 1}}, impl.Txn{Id: 1<<32 + 1, Session: 257, Seq: 65537}), false)
}

// fewTxns stand for each other in every way that there is.
func fewTxns() []impl.Txn {
	return []impl.Txn{named(1, 1, 1, 1), named(1, 1, 1, 2), named(1, 2, 2, 3), named(2, 1, 1, 4), named(3, 2, 1, 5), named(4, 1, 2, 6), named(5, 3, 3, 7)}
}

// fewLists are all lists of fewTxns that have no fault, of at most so many.
func fewLists(most int) [][]impl.Txn {
	lists, from := [][]impl.Txn{nil}, 0
	for range most {
		to := len(lists)
		for _, list := range lists[from:to] {
			for _, txn := range fewTxns() {
				if !slices.ContainsFunc(list, func(other impl.Txn) bool { return standsFor(other, txn) }) {
					lists = append(lists, append(slices.Clone(list), txn))
				}
			}
		}
		from = to
	}
	return lists
}

func TestListsOfFewNames(t *testing.T) {
	lists := fewLists(4)
	if len(lists) < 150 {
		t.Fatalf("%d lists alone", len(lists))
	}
	for _, list := range lists {
		what := fmt.Sprint(list)
		wantCode(t, what, impl.ListFault(list), impl.OK)
		for _, txn := range fewTxns() {
			has := false
			for _, other := range list {
				has = has || standsFor(other, txn)
			}
			wantBool(t, fmt.Sprint(txn, " in ", what), impl.HasTxn(list, txn), has)
			code := int64(impl.OK)
			if has {
				code = impl.ErrTaken
			}
			wantCode(t, fmt.Sprint(txn, " behind ", what), impl.ListFault(append(slices.Clone(list), txn)), code)
		}
	}
}
