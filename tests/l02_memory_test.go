package tests

import (
	"fmt"
	"slices"
	"testing"

	"loop.example/g00631/impl"
)

// Promise 1, of chapter 2.

func manyTxns() []impl.Txn {
	var list []impl.Txn
	for _, c := range allTxnCases() {
		list = append(list, c.txn)
	}
	return append(list, impl.Txn{Acts: []impl.Act{}}, impl.Txn{Id: 1, Session: 1, Seq: 1, Acts: []impl.Act{}})
}

func manyTxnLists() [][]impl.Txn {
	faulty := someTxns(3)
	faulty[2].Acts = nil
	twice := []impl.Txn{someTxn(2), txnOf(2, 1, 1, put(1, 1)), someTxn(2)}
	return [][]impl.Txn{nil, {}, {{}}, {{Acts: []impl.Act{}}}, faulty, twice, someTxns(1), someTxns(2), someTxns(60), someTxns(61), someTxns(200)}
}

func manyTxnBytes() [][]byte {
	all := manyBytes()
	for _, txn := range manyTxns() {
		packed := impl.PackTxn(txn).Bytes
		all = append(all, packed, slices.Concat(packed, []byte{0}))
		if len(packed) > 0 {
			all = append(all, packed[:len(packed)-1])
		}
	}
	return all
}

func TestTxnsLeaveAllElseAlone(t *testing.T) {
	var calls []call
	for i, txn := range manyTxns() {
		calls = append(calls, call1(fmt.Sprint("TxnFault ", i), impl.TxnFault, txn))
		calls = append(calls, call1(fmt.Sprint("PackTxn ", i), impl.PackTxn, txn))
	}
	for i, data := range manyTxnBytes() {
		calls = append(calls, call1(fmt.Sprint("ReadTxn ", i), impl.ReadTxn, data))
	}
	for i, list := range manyTxnLists() {
		calls = append(calls, call1(fmt.Sprint("IdsOf ", i), impl.IdsOf, list))
		for _, id := range append([]int64{60, 61, 200, 201}, manyInts...) {
			calls = append(calls, call2(fmt.Sprint("FindTxn ", i, " of ", id), impl.FindTxn, list, id))
		}
		for j, other := range manyTxnLists() {
			calls = append(calls, call2(fmt.Sprint("SameTxns ", i, " and ", j), impl.SameTxns, list, other))
		}
	}
	checkCalls(t, calls)
}

// A transaction that is found is the caller's own, its acts too.
func TestFoundActsAreNewMemory(t *testing.T) {
	list := someTxns(3)
	found, other := impl.FindTxn(list, 2), impl.FindTxn(list, 2)
	found.Txn.Acts[0].Value = 77
	_ = append(found.Txn.Acts[:1], put(9, 9))
	wantSame(t, "the list behind it", list, someTxns(3), true)
	list[1].Acts[1].Value = 88
	wantTxn(t, "the other answer", other, someTxn(2))
}

func TestReadTxnStopsAtTheLength(t *testing.T) {
	packed := impl.PackTxn(someTxn(5)).Bytes
	for length := range packed {
		wantTxnCode(t, fmt.Sprint("cut to ", length, ", the rest behind it"), impl.ReadTxn(packed[:length]), impl.ErrText)
	}
}
