package tests

import (
	"fmt"
	"math"
	"reflect"
	"slices"
	"testing"

	"loop.example/g00631/impl"
)

// Promise 3: a transaction is read back from its bytes.

func put(key, value int64) impl.Act   { return impl.Act{Kind: impl.ActPut, Key: key, Value: value} }
func add(key, value int64) impl.Act   { return impl.Act{Kind: impl.ActAdd, Key: key, Value: value} }
func remove(key int64) impl.Act       { return impl.Act{Kind: impl.ActDelete, Key: key} }
func holds(key, value int64) impl.Act { return impl.Act{Kind: impl.ActCheck, Key: key, Value: value} }

func txnOf(id, session, seq int64, acts ...impl.Act) impl.Txn {
	return impl.Txn{Id: id, Session: session, Seq: seq, Acts: acts}
}

// someTxn has all kinds of acts.
func someTxn(id int64) impl.Txn {
	return txnOf(id, 2, 3, put(4, -5), add(20, 1000), remove(7), holds(1, -1000))
}

func someTxns(count int) []impl.Txn {
	var list []impl.Txn
	for i := range count {
		list = append(list, someTxn(int64(i%impl.MaxId)+1))
	}
	return list
}

func numbersOfTxn(t impl.Txn) []int64 {
	numbers := []int64{t.Id, t.Session, t.Seq}
	for _, act := range t.Acts {
		numbers = append(numbers, act.Kind, act.Key, act.Value)
	}
	return numbers
}

func wantTxn(t *testing.T, what string, got impl.TxnResult, want impl.Txn) {
	t.Helper()
	if !reflect.DeepEqual(got, impl.TxnResult{Txn: want}) {
		t.Errorf("%s: got %v, want %v", what, got, want)
	}
}

func wantTxnCode(t *testing.T, what string, got impl.TxnResult, code int64) {
	t.Helper()
	if !reflect.DeepEqual(got, impl.TxnResult{Code: code}) {
		t.Errorf("%s: got %v, want code %d and nothing else", what, got, code)
	}
}

func wantSame(t *testing.T, what string, a, b []impl.Txn, want bool) {
	t.Helper()
	if impl.SameTxns(a, b) != want || impl.SameTxns(b, a) != want {
		t.Errorf("%s: SameTxns is not %v", what, want)
	}
}

type faultyTxn struct {
	what string
	txn  impl.Txn
	code int64
}

// edges are numbers at, within and outside of bounds.
func edges(least, greatest int64) (right []int64, wrong []int64) {
	right = []int64{least, least + 1, greatest - 1, greatest}
	wrong = []int64{least - 1, greatest + 1, least - 256, greatest + 256, least - 65536, greatest + 65536,
		least + 1<<32, greatest + 1<<32, math.MinInt64, math.MaxInt64}
	return right, wrong
}

// boundsCases: with sets a field of a right transaction; nothing but least to greatest is right there.
func boundsCases(what string, least, greatest int64, with func(n int64) impl.Txn) []faultyTxn {
	var cases []faultyTxn
	right, wrong := edges(least, greatest)
	for _, n := range right {
		cases = append(cases, faultyTxn{fmt.Sprint(what, " ", n), with(n), impl.OK})
	}
	for _, n := range wrong {
		cases = append(cases, faultyTxn{fmt.Sprint(what, " ", n), with(n), impl.ErrRange})
	}
	return cases
}

func headCases() []faultyTxn {
	act := put(1, 0)
	return slices.Concat(
		boundsCases("Id", 1, 200, func(n int64) impl.Txn { return txnOf(n, 1, 1, act) }),
		boundsCases("Session", 1, 9, func(n int64) impl.Txn { return txnOf(1, n, 1, act) }),
		boundsCases("Seq", 1, 99, func(n int64) impl.Txn { return txnOf(1, 1, n, act) }),
	)
}

// inAct lays act at each of four places, the other acts right.
func inAct(act impl.Act) []impl.Txn {
	var list []impl.Txn
	for at := range 4 {
		t := someTxn(9)
		t.Acts[at] = act
		list = append(list, t)
	}
	return list
}

func actCases() []faultyTxn {
	var cases []faultyTxn
	for at := range 4 {
		for _, kind := range []int64{impl.ActPut, impl.ActAdd, impl.ActDelete, impl.ActCheck} {
			what := fmt.Sprintf("act %d, kind %d: ", at, kind)
			cases = append(cases, boundsCases(what+"Key", 1, 20, func(n int64) impl.Txn {
				return inAct(impl.Act{Kind: kind, Key: n})[at]
			})...)
			if kind != impl.ActDelete {
				cases = append(cases, boundsCases(what+"Value", -1000, 1000, func(n int64) impl.Txn {
					return inAct(impl.Act{Kind: kind, Key: 20, Value: n})[at]
				})...)
			}
		}
	}
	return cases
}

func formCases() []faultyTxn {
	var cases []faultyTxn
	for _, kind := range []int64{0, 5, -1, 6, 257, 258, 1<<32 + 1, math.MinInt64, math.MaxInt64} {
		for at, txn := range inAct(impl.Act{Kind: kind, Key: 1}) {
			cases = append(cases, faultyTxn{fmt.Sprintf("act %d, kind %d", at, kind), txn, impl.ErrForm})
		}
	}
	for _, value := range []int64{-1, 1, 1000, -1000, 1001, -1001, 1 << 32, math.MinInt64, math.MaxInt64} {
		for at, txn := range inAct(impl.Act{Kind: impl.ActDelete, Key: 1, Value: value}) {
			cases = append(cases, faultyTxn{fmt.Sprintf("act %d, a delete of value %d", at, value), txn, impl.ErrForm})
		}
	}
	return cases
}

func countCases() []faultyTxn {
	var cases []faultyTxn
	for count, code := range []int64{impl.ErrMany, impl.OK, impl.OK, impl.OK, impl.OK, impl.ErrMany, impl.ErrMany, impl.ErrMany} {
		acts := slices.Repeat([]impl.Act{put(2, 7)}, count)
		cases = append(cases, faultyTxn{fmt.Sprint(count, " acts"), txnOf(1, 1, 1, acts...), code})
	}
	many := slices.Repeat([]impl.Act{put(2, 7)}, 257)
	return append(cases, faultyTxn{"257 acts", txnOf(1, 1, 1, many...), impl.ErrMany})
}

// orderCases have several faults each; the first one that is asked is the answer.
func orderCases() []faultyTxn {
	form, key, value := impl.Act{Kind: 5, Key: 1}, put(21, 0), put(1, 1001)
	all := slices.Repeat([]impl.Act{form}, 5)
	return []faultyTxn{
		{"nothing at all", impl.Txn{}, impl.ErrRange},
		{"Id, no act", txnOf(0, 1, 1), impl.ErrRange},
		{"Session, no act", txnOf(1, 10, 1), impl.ErrRange},
		{"Seq, no act", txnOf(1, 1, 100), impl.ErrRange},
		{"Id, five acts, their form", txnOf(201, 1, 1, all...), impl.ErrRange},
		{"Session, five acts, their form", txnOf(1, 0, 1, all...), impl.ErrRange},
		{"Seq, five acts, their form", txnOf(1, 1, 0, all...), impl.ErrRange},
		{"Seq, the form of an act", txnOf(1, 1, 0, form), impl.ErrRange},
		{"five acts, their form", txnOf(1, 1, 1, all...), impl.ErrMany},
		{"five acts, a key", txnOf(1, 1, 1, key, form, form, form, form), impl.ErrMany},
		{"kind and key", txnOf(1, 1, 1, impl.Act{Kind: 0, Key: 0}), impl.ErrForm},
		{"kind and value", txnOf(1, 1, 1, impl.Act{Kind: 5, Key: 1, Value: 1001}), impl.ErrForm},
		{"a delete, key and value", txnOf(1, 1, 1, impl.Act{Kind: impl.ActDelete, Key: 21, Value: 1}), impl.ErrForm},
		{"a delete, a value out of bounds", txnOf(1, 1, 1, impl.Act{Kind: impl.ActDelete, Key: 1, Value: 1001}), impl.ErrForm},
		{"a delete, key alone", txnOf(1, 1, 1, remove(21)), impl.ErrRange},
		{"key, then form", txnOf(1, 1, 1, key, form), impl.ErrRange},
		{"value, then form", txnOf(1, 1, 1, put(1, 1), value, form), impl.ErrRange},
		{"form, then key", txnOf(1, 1, 1, form, key), impl.ErrForm},
		{"form behind right ones, then value", txnOf(1, 1, 1, put(1, 1), remove(2), form, value), impl.ErrForm},
	}
}

func allTxnCases() []faultyTxn {
	return slices.Concat(headCases(), actCases(), formCases(), countCases(), orderCases(),
		[]faultyTxn{{"all kinds", someTxn(200), impl.OK}})
}

func TestKindsHaveTheirNumbers(t *testing.T) {
	got := []int64{impl.ActPut, impl.ActAdd, impl.ActDelete, impl.ActCheck, impl.MaxActs, impl.MaxId}
	if want := []int64{1, 2, 3, 4, 4, 200}; !slices.Equal(got, want) {
		t.Errorf("got %v, want %v", got, want)
	}
}

func TestTxnFault(t *testing.T) {
	for _, c := range allTxnCases() {
		wantCode(t, c.what, impl.TxnFault(c.txn), c.code)
	}
}

func TestEveryRightHeadHasNoFault(t *testing.T) {
	for id := range int64(200) {
		for session := range int64(9) {
			for seq := range int64(99) {
				if code := impl.TxnFault(txnOf(id+1, session+1, seq+1, remove(1))); code != impl.OK {
					t.Fatalf("Id %d, Session %d, Seq %d: got code %d", id+1, session+1, seq+1, code)
				}
			}
		}
	}
}

func TestPackTxnByHand(t *testing.T) {
	wantBytes(t, "a put", impl.PackTxn(txnOf(1, 2, 3, put(4, -5))), 6, 0, 1, 0, 2, 0, 3, 0, 1, 0, 4, 255, 251)
	wantBytes(t, "an add and a delete", impl.PackTxn(txnOf(200, 9, 99, add(20, 1000), remove(1))),
		9, 0, 200, 0, 9, 0, 99, 0, 2, 0, 20, 3, 232, 0, 3, 0, 1, 0, 0)
	wantBytes(t, "a check", impl.PackTxn(txnOf(1, 1, 1, holds(5, -1000))), 6, 0, 1, 0, 1, 0, 1, 0, 4, 0, 5, 252, 24)
}

func TestTxnsAreReadBackOrTellTheirFault(t *testing.T) {
	for _, c := range allTxnCases() {
		packed := impl.PackTxn(c.txn)
		if c.code != impl.OK {
			wantBytesCode(t, c.what, packed, c.code)
			continue
		}
		wantBytes(t, c.what, packed, packedByHand(numbersOfTxn(c.txn))...)
		wantTxn(t, c.what, impl.ReadTxn(packed.Bytes), c.txn)
	}
}

func TestEveryActIsReadBack(t *testing.T) {
	for key := range int64(20) {
		for value := int64(-1000); value <= 1000; value++ {
			txn := txnOf(key+1, 1+key%9, 99, put(key+1, value), add(20-key, -value), holds(key+1, value))
			wantTxn(t, fmt.Sprint(txn), impl.ReadTxn(impl.PackTxn(txn).Bytes), txn)
		}
		txn := txnOf(1, 1, 1, remove(key+1))
		wantTxn(t, fmt.Sprint(txn), impl.ReadTxn(impl.PackTxn(txn).Bytes), txn)
	}
}

// Whatever numbers are packed: they are a transaction where they are read as one, and else none.
func TestReadTxnRefusesNumbersThatAreNone(t *testing.T) {
	for _, c := range allTxnCases() {
		packed := impl.PackNumbers(numbersOfTxn(c.txn))
		if c.code != impl.OK && packed.Code == impl.OK {
			wantTxnCode(t, c.what, impl.ReadTxn(packed.Bytes), impl.ErrText)
		}
	}
}

func TestReadTxnOfEveryCountOfNumbers(t *testing.T) {
	numbers := []int64{1, 1, 1}
	for range 20 {
		numbers = append(numbers, impl.ActPut, 1, 1)
	}
	for count := range 41 {
		got := impl.ReadTxn(packedByHand(numbers[:count]))
		if count == 6 || count == 9 || count == 12 || count == 15 {
			wantTxn(t, fmt.Sprint(count, " numbers"), got, txnOf(1, 1, 1, slices.Repeat([]impl.Act{put(1, 1)}, count/3-1)...))
			continue
		}
		wantTxnCode(t, fmt.Sprint(count, " numbers"), got, impl.ErrText)
	}
	wantTxnCode(t, "41 numbers", impl.ReadTxn(packedByHand(numbers[:41])), impl.ErrText)
}

func TestReadTxnRefusesBytesThatAreNone(t *testing.T) {
	wantTxnCode(t, "nil", impl.ReadTxn(nil), impl.ErrText)
	wantTxnCode(t, "no bytes", impl.ReadTxn([]byte{}), impl.ErrText)
	wantTxnCode(t, "an empty list", impl.ReadTxn([]byte{0}), impl.ErrText)
	for _, acts := range [][]impl.Act{{put(4, -5)}, {put(4, -5), remove(3)}, someTxn(1).Acts} {
		packed := impl.PackTxn(txnOf(1, 2, 3, acts...)).Bytes
		for length := range packed {
			wantTxnCode(t, fmt.Sprint(len(acts), " acts cut to ", length), impl.ReadTxn(packed[:length]), impl.ErrText)
		}
		for _, more := range [][]byte{{0}, {0, 1}, {0, 1, 0, 1, 0, 1}} {
			wantTxnCode(t, fmt.Sprint(len(acts), " acts and more"), impl.ReadTxn(slices.Concat(packed, more)), impl.ErrText)
		}
		wantTxnCode(t, "a byte ahead", impl.ReadTxn(slices.Concat([]byte{0}, packed)), impl.ErrText)
	}
}

// There is one way to write a transaction alone: bytes that are turned are another transaction, or none.
func TestEveryTurnedByteIsAnotherTxnOrNone(t *testing.T) {
	packed := impl.PackTxn(someTxn(7)).Bytes
	for at := range packed {
		for turn := 1; turn < 256; turn++ {
			data := slices.Clone(packed)
			data[at] ^= byte(turn)
			got := impl.ReadTxn(data)
			if got.Code == impl.OK {
				wantBytes(t, fmt.Sprint("byte ", at, " turned by ", turn), impl.PackTxn(got.Txn), data...)
				continue
			}
			wantTxnCode(t, fmt.Sprint("byte ", at, " turned by ", turn), got, impl.ErrText)
		}
	}
}

func TestSameTxnsTellsEveryDifference(t *testing.T) {
	turns := []func(x *impl.Txn){
		func(x *impl.Txn) { x.Id++ },
		func(x *impl.Txn) { x.Session++ },
		func(x *impl.Txn) { x.Seq++ },
		func(x *impl.Txn) { x.Acts = x.Acts[:3] },
		func(x *impl.Txn) { x.Acts = nil },
		func(x *impl.Txn) { x.Acts = append(x.Acts, put(1, 1)) },
		func(x *impl.Txn) { x.Acts[0].Kind++ },
		func(x *impl.Txn) { x.Acts[1].Key++ },
		func(x *impl.Txn) { x.Acts[3].Value++ },
		func(x *impl.Txn) { x.Acts[0], x.Acts[1] = x.Acts[1], x.Acts[0] },
		func(x *impl.Txn) { x.Session, x.Seq = x.Seq, x.Session },
	}
	for i, turn := range turns {
		for at := range 3 {
			a, b := someTxns(3), someTxns(3)
			wantSame(t, "alike", a, b, true)
			turn(&b[at])
			wantSame(t, fmt.Sprint("turn ", i, " at ", at), a, b, false)
		}
	}
}

func TestSameTxnsTellsCountAndOrder(t *testing.T) {
	list := someTxns(5)
	wantSame(t, "itself", list, list, true)
	wantSame(t, "nothing", nil, nil, true)
	wantSame(t, "nil and empty", nil, []impl.Txn{}, true)
	wantSame(t, "one and none", list[:1], nil, false)
	wantSame(t, "one zero value and none", []impl.Txn{{}}, nil, false)
	wantSame(t, "fewer", list[:4], list, false)
	wantSame(t, "the end alone", list[1:], list, false)
	wantSame(t, "turned round", []impl.Txn{list[0], list[1]}, []impl.Txn{list[1], list[0]}, false)
	wantSame(t, "nil and empty acts", []impl.Txn{{Id: 1}}, []impl.Txn{{Id: 1, Acts: []impl.Act{}}}, true)
	wantSame(t, "acts that went to the next one",
		[]impl.Txn{txnOf(1, 1, 1, put(1, 1), put(2, 2)), txnOf(2, 1, 1)}, []impl.Txn{txnOf(1, 1, 1, put(1, 1)), txnOf(2, 1, 1, put(2, 2))}, false)
}

// SameTxns has no code: what has a fault, and however many there are, is the same or not as well.
func TestSameTxnsOfFaultyOnes(t *testing.T) {
	faulty := []impl.Txn{txnOf(math.MinInt64, 0, math.MaxInt64, impl.Act{Kind: -1, Key: 99, Value: 1 << 40})}
	other := []impl.Txn{txnOf(math.MinInt64, 0, math.MaxInt64, impl.Act{Kind: -1, Key: 99, Value: 1<<40 + 1})}
	wantSame(t, "faulty and itself", faulty, slices.Clone(faulty), true)
	wantSame(t, "faulty and another", faulty, other, false)
	wantSame(t, "61", someTxns(61), someTxns(61), true)
	wantSame(t, "300 and 299", someTxns(300), someTxns(299), false)
}

func TestIdsOf(t *testing.T) {
	wantInts(t, "nil", impl.IdsOf(nil))
	wantInts(t, "empty", impl.IdsOf([]impl.Txn{}))
	wantInts(t, "in order, an Id twice", impl.IdsOf([]impl.Txn{someTxn(7), someTxn(200), someTxn(7), someTxn(1)}), 7, 200, 7, 1)
	for _, count := range []int{1, 59, 60} {
		var want []int64
		for i := range count {
			want = append(want, int64(i)+1)
		}
		wantInts(t, fmt.Sprint(count), impl.IdsOf(someTxns(count)), want...)
	}
}

func TestIdsOfAndFindTxnRefuseMoreThan60(t *testing.T) {
	for _, count := range []int{61, 62, 256, 316} {
		wantIntsCode(t, fmt.Sprint(count), impl.IdsOf(someTxns(count)), impl.ErrMany)
		wantTxnCode(t, fmt.Sprint(count), impl.FindTxn(someTxns(count), 1), impl.ErrMany)
	}
	list := someTxns(61)
	list[0], list[60] = impl.Txn{}, txnOf(1, 1, 1, put(21, 0))
	wantIntsCode(t, "61 of them faulty", impl.IdsOf(list), impl.ErrMany)
	wantTxnCode(t, "61 of them faulty", impl.FindTxn(list, 2), impl.ErrMany)
}

func TestIdsOfAndFindTxnTellTheFaults(t *testing.T) {
	for _, c := range allTxnCases() {
		if c.code == impl.OK {
			continue
		}
		for _, at := range []int{0, 1, 59} {
			list := someTxns(60)
			list[at] = c.txn
			wantIntsCode(t, fmt.Sprint(c.what, " at ", at), impl.IdsOf(list), c.code)
			wantTxnCode(t, fmt.Sprint(c.what, " at ", at), impl.FindTxn(list, 1), c.code)
			wantTxnCode(t, fmt.Sprint(c.what, " at ", at, ", none has the id"), impl.FindTxn(list, 99), c.code)
		}
	}
}

func TestIdsOfAndFindTxnTellTheFirstFault(t *testing.T) {
	head, none, form := txnOf(0, 1, 1, put(1, 1)), txnOf(1, 1, 1), txnOf(1, 1, 1, impl.Act{Kind: 9, Key: 1})
	cases := []struct {
		list []impl.Txn
		code int64
	}{
		{[]impl.Txn{someTxn(1), head, none, form}, impl.ErrRange},
		{[]impl.Txn{someTxn(1), none, head, form}, impl.ErrMany},
		{[]impl.Txn{someTxn(1), form, head, none}, impl.ErrForm},
		{[]impl.Txn{form, none}, impl.ErrForm},
		{[]impl.Txn{none, form}, impl.ErrMany},
	}
	for _, c := range cases {
		wantIntsCode(t, fmt.Sprint(c.list), impl.IdsOf(c.list), c.code)
		wantTxnCode(t, fmt.Sprint(c.list), impl.FindTxn(c.list, 1), c.code)
	}
}

func TestFindTxn(t *testing.T) {
	list := someTxns(60)
	for i, txn := range list {
		wantTxn(t, fmt.Sprint("id ", i+1), impl.FindTxn(list, int64(i)+1), txn)
	}
	for _, id := range []int64{0, -1, 61, 200, 201, 257, 1<<32 + 1, math.MinInt64, math.MaxInt64} {
		wantTxnCode(t, fmt.Sprint("id ", id), impl.FindTxn(list, id), impl.ErrNone)
	}
	wantTxnCode(t, "among none", impl.FindTxn(nil, 1), impl.ErrNone)
	wantTxnCode(t, "among none, no id", impl.FindTxn([]impl.Txn{}, 0), impl.ErrNone)
}

func TestFindTxnTellsTheFirstOfOneId(t *testing.T) {
	first, second := txnOf(8, 1, 1, put(1, 1)), txnOf(8, 2, 2, remove(2), add(3, 3))
	wantTxn(t, "two of one Id", impl.FindTxn([]impl.Txn{someTxn(1), first, second}, 8), first)
	wantTxn(t, "the other way round", impl.FindTxn([]impl.Txn{second, someTxn(1), first}, 8), second)
}
