package tests

import (
	"fmt"
	"math"
	"reflect"
	"testing"

	"loop.example/g00631/impl"
)

// Promise 8, of DefiniteOf: the order of fewer outcomes is a beginning of that of more, and each one is in it once.

func wantTxns(t *testing.T, what string, got impl.TxnsResult, want ...impl.Txn) {
	t.Helper()
	if !reflect.DeepEqual(emptyAsNil(got), emptyAsNil(impl.TxnsResult{Txns: want})) {
		t.Errorf("%s: got %+v, want %+v", what, got, want)
	}
}

func wantTxnsCode(t *testing.T, what string, got impl.TxnsResult, code int64) {
	t.Helper()
	if got.Code != code || len(got.Txns) != 0 {
		t.Errorf("%s: got %+v, want code %d and nothing else", what, got, code)
	}
}

func standsFor(a, b impl.Txn) bool { return a.Id == b.Id || a.Session == b.Session && a.Seq == b.Seq }

// definiteByPairs tells DefiniteOf a right order by holding each one against all that stay ahead of it.
func definiteByPairs(list []impl.Instance, n int64) []impl.Txn {
	var stay []impl.Txn
	for _, x := range list[:n] {
		if countIn(x.Decided, 1) == 0 {
			continue
		}
		for _, txn := range x.Batch {
			isKnown := false
			for _, other := range stay {
				isKnown = isKnown || standsFor(other, txn)
			}
			if !isKnown {
				stay = append(stay, txn)
			}
		}
	}
	return stay
}

// wantDefinite asks DefiniteOf at every n, and all that is promised of it.
func wantDefinite(t *testing.T, what string, list []impl.Instance) {
	t.Helper()
	decided := impl.DecidedIn(list).Value
	var ahead []impl.Txn
	for n := range decided + 1 {
		got := impl.DefiniteOf(list, n)
		wantTxns(t, fmt.Sprint(what, ", the first ", n), got, definiteByPairs(list, n)...)
		if !impl.IsPrefix(ahead, got.Txns) || !reflect.DeepEqual(emptyAsNil(ahead), emptyAsNil(got.Txns[:len(ahead)])) {
			t.Errorf("%s: %v is no beginning of %v", what, ahead, got.Txns)
		}
		ahead = got.Txns
	}
	wantOnceEach(t, what, ahead)
	for _, n := range []int64{-1, decided + 1, decided + 2, math.MinInt64, math.MaxInt64, 1 << 32, -1 << 32} {
		wantTxnsCode(t, fmt.Sprint(what, ", the first ", n), impl.DefiniteOf(list, n), impl.ErrRange)
	}
}

func wantOnceEach(t *testing.T, what string, list []impl.Txn) {
	t.Helper()
	for i, a := range list {
		for _, b := range list[:i] {
			if standsFor(a, b) {
				t.Errorf("%s: %v and %v are one", what, a, b)
			}
		}
	}
}

// inBatches has an order of an instance for each batch, all of them taken.
func inBatches(batches ...[]impl.Txn) []impl.Instance {
	var list []impl.Instance
	for _, batch := range batches {
		list = append(list, takenBoard(batch...))
	}
	return list
}

func TestDefiniteOfEveryOrder(t *testing.T) {
	for i, list := range rightOrders() {
		wantDefinite(t, fmt.Sprint("right order ", i), list)
	}
}

func TestDefiniteOfByHand(t *testing.T) {
	a, b, c, d := named(1, 1, 1, 1), named(2, 1, 2, 2), named(3, 2, 1, 3), named(4, 2, 2, 4)
	list := []impl.Instance{takenBoard(c, a), refusedBoard(b), refusedBoard(), takenBoard(d, b)}
	wantTxns(t, "none", impl.DefiniteOf(list, 0))
	wantTxns(t, "one", impl.DefiniteOf(list, 1), c, a)
	wantTxns(t, "an outcome of 0 with a batch", impl.DefiniteOf(list, 2), c, a)
	wantTxns(t, "an outcome of 0 without one", impl.DefiniteOf(list, 3), c, a)
	wantTxns(t, "all; what was refused is no hindrance", impl.DefiniteOf(list, 4), c, a, d, b)
	wantTxnsCode(t, "one more", impl.DefiniteOf(list, 5), impl.ErrRange)
	wantTxnsCode(t, "one less", impl.DefiniteOf(list, -1), impl.ErrRange)
	list = []impl.Instance{takenBoard(a), boardBy([]impl.Txn{b}, "...", "111 111")}
	wantTxns(t, "an open one behind it", impl.DefiniteOf(list, 1), a)
	wantTxnsCode(t, "the open one", impl.DefiniteOf(list, 2), impl.ErrRange)
	wantTxns(t, "an open one alone", impl.DefiniteOf(list[1:], 0))
	wantTxnsCode(t, "the open one alone", impl.DefiniteOf(list[1:], 1), impl.ErrRange)
}

// The n first instances are meant, not the n first ones of those that were taken.
func TestDefiniteOfCountsWhatWasRefused(t *testing.T) {
	a, b := named(1, 1, 1, 1), named(2, 1, 2, 2)
	list := []impl.Instance{refusedBoard(), takenBoard(a), refusedBoard(named(7, 7, 7, 7)), takenBoard(b)}
	wantTxns(t, "1", impl.DefiniteOf(list, 1))
	wantTxns(t, "2", impl.DefiniteOf(list, 2), a)
	wantTxns(t, "3", impl.DefiniteOf(list, 3), a)
	wantTxns(t, "4", impl.DefiniteOf(list, 4), a, b)
}

// Who is known: by the Id, or by both Session and Seq; by one of the latter alone nobody is.
func TestDefiniteOfLeavesOutWhoIsKnown(t *testing.T) {
	first := named(1, 2, 3, 10)
	cases := []struct {
		what  string
		txn   impl.Txn
		stays bool
	}{
		{"the same one", first, false},
		{"the same names, another act", named(1, 2, 3, 11), false},
		{"one Session and Seq under another Id", named(2, 2, 3, 11), false},
		{"the same act, another Id", named(9, 2, 3, 10), false},
		{"one Id under another Session and Seq", named(1, 3, 4, 11), false},
		{"one Id under another Session", named(1, 3, 3, 11), false},
		{"one Id under another Seq", named(1, 2, 4, 11), false},
		{"the Session alone", named(2, 2, 4, 11), true},
		{"the Seq alone", named(2, 3, 3, 11), true},
		{"Session and Seq the other way round", named(2, 3, 2, 11), true},
		{"an Id that is the Session", named(2, 4, 4, 11), true},
		{"an Id that is the Seq", named(3, 4, 4, 11), true},
		{"Session and Seq that are the Id", named(4, 1, 1, 11), true},
		{"nothing", named(5, 6, 7, 11), true},
	}
	other := named(100, 9, 99, 0)
	for _, c := range cases {
		want := []impl.Txn{first, other}
		if c.stays {
			want = []impl.Txn{first, other, c.txn}
		}
		wantTxns(t, c.what+", in the next batch", impl.DefiniteOf(inBatches([]impl.Txn{first, other}, []impl.Txn{c.txn}), 2), want...)
		wantTxns(t, c.what+", in the third one", impl.DefiniteOf(inBatches([]impl.Txn{first}, []impl.Txn{other}, []impl.Txn{c.txn}), 3), want...)
		wantTxns(t, c.what+", in all of three", impl.DefiniteOf(inBatches([]impl.Txn{first, other}, []impl.Txn{c.txn}, []impl.Txn{c.txn}), 3), want...)
		if c.txn.Id != first.Id {
			wantTxns(t, c.what+", in one batch", impl.DefiniteOf(inBatches([]impl.Txn{first, other, c.txn}), 1), want...)
		}
	}
}

// Who was left out is not in the order, and so leaves others in.
func TestDefiniteOfWhoIsLeftOutStandsForNobody(t *testing.T) {
	first, sameId, sameRequest := named(1, 1, 1, 1), named(1, 2, 2, 2), named(3, 1, 1, 3)
	likeSameId, likeSameRequest := named(4, 2, 2, 4), named(3, 5, 5, 5)
	wantTxns(t, "its Session and Seq", impl.DefiniteOf(inBatches([]impl.Txn{first}, []impl.Txn{sameId}, []impl.Txn{likeSameId}), 3), first, likeSameId)
	wantTxns(t, "its Id", impl.DefiniteOf(inBatches([]impl.Txn{first}, []impl.Txn{sameRequest}, []impl.Txn{likeSameRequest}), 3), first, likeSameRequest)
	wantTxns(t, "in one batch", impl.DefiniteOf(inBatches([]impl.Txn{first}, []impl.Txn{sameId, likeSameId}), 2), first, likeSameId)
	wantTxns(t, "both", impl.DefiniteOf(inBatches([]impl.Txn{first}, []impl.Txn{sameId, sameRequest}, []impl.Txn{likeSameId, likeSameRequest}), 3), first, likeSameId, likeSameRequest)
	wantTxns(t, "who stays does so behind them", impl.DefiniteOf(inBatches([]impl.Txn{first}, []impl.Txn{sameId}, []impl.Txn{likeSameId}, []impl.Txn{named(9, 2, 2, 9), named(4, 6, 6, 6)}), 4), first, likeSameId)
}

// All batches are left out, or all but one of each.
func TestDefiniteOfTheSameBatchAgain(t *testing.T) {
	batch := ownTxns(1, 4)
	list := inBatches(batch, batch, batch, batch)
	for n := range int64(5) {
		want := batch[:min(4*n, 4)]
		wantTxns(t, fmt.Sprint("the same batch, ", n, " times"), impl.DefiniteOf(list, n), want...)
	}
	wantTxns(t, "one request four times in a batch", impl.DefiniteOf(inBatches(someTxns(4)), 1), someTxn(1))
	wantTxns(t, "16 of their own", impl.DefiniteOf(inBatches(ownTxns(1, 4), ownTxns(5, 4), ownTxns(9, 4), ownTxns(13, 4)), 4), ownTxns(1, 16)...)
	wantTxns(t, "the greatest names", impl.DefiniteOf(inBatches([]impl.Txn{named(200, 9, 99, 0)}, []impl.Txn{named(199, 9, 98, 1), named(200, 8, 99, 2)}), 2), named(200, 9, 99, 0), named(199, 9, 98, 1))
}

// Every three transactions of few names, one by one and together, beside every fourth one or a refused batch.
func TestDefiniteOfAllOfFewNames(t *testing.T) {
	var few []impl.Txn
	for id := range int64(3) {
		for _, request := range [][2]int64{{1, 1}, {1, 2}, {2, 1}} {
			few = append(few, named(id+1, request[0], request[1], int64(len(few))))
		}
	}
	for i, a := range few {
		for j, b := range few {
			for k, c := range few {
				what := fmt.Sprint(i, " ", j, " ", k)
				list := inBatches([]impl.Txn{a}, []impl.Txn{b}, []impl.Txn{c}, ownTxns(9, 1))
				wantTxns(t, what, impl.DefiniteOf(list, 4), definiteByPairs(list, 4)...)
				list = []impl.Instance{takenBoard(a), refusedBoard(b), takenBoard(c)}
				wantTxns(t, what+", the second one refused", impl.DefiniteOf(list, 3), definiteByPairs(list, 3)...)
				if b.Id != c.Id {
					list = inBatches([]impl.Txn{a}, []impl.Txn{b, c})
					wantTxns(t, what+", two of them together", impl.DefiniteOf(list, 2), definiteByPairs(list, 2)...)
				}
			}
		}
	}
}
