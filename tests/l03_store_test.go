package tests

import (
	"fmt"
	"math"
	"slices"
	"testing"

	"loop.example/g00631/impl"
)

// Promise 4: a transaction is done wholly or not at all, and one by one they are what they are together; a range tells the items from a key on, in order.

func item(key, value int64) impl.Item { return impl.Item{Key: key, Value: value} }

// evenItems have the Keys 2, 4, 6 and so on, each with the hundredfold as Value.
func evenItems(count int) []impl.Item {
	var list []impl.Item
	for i := range int64(count) {
		list = append(list, item(2*i+2, 200*i+200))
	}
	return list
}

func withItem(list []impl.Item, at int, it impl.Item) []impl.Item {
	turned := slices.Clone(list)
	turned[at] = it
	return turned
}

func acts(list ...impl.Act) impl.Txn { return txnOf(1, 1, 1, list...) }

func wantItems(t *testing.T, what string, got impl.ItemsResult, value int64, want []impl.Item) {
	t.Helper()
	if got.Code != impl.OK || got.Value != value || !slices.Equal(got.Items, want) {
		t.Errorf("%s: got %v, want value %d and %v", what, got, value, want)
	}
}

func wantItemsCode(t *testing.T, what string, got impl.ItemsResult, code int64) {
	t.Helper()
	if got.Code != code || got.Value != 0 || len(got.Items) != 0 {
		t.Errorf("%s: got %v, want code %d and nothing else", what, got, code)
	}
}

func wantAnswers(t *testing.T, what string, got impl.AnswersResult, codes, values []int64, items []impl.Item) {
	t.Helper()
	if got.Code != impl.OK || !slices.Equal(got.Codes, codes) || !slices.Equal(got.Values, values) || !slices.Equal(got.Items, items) {
		t.Errorf("%s: got %v, want %v, %v and %v", what, got, codes, values, items)
	}
}

func wantAnswersCode(t *testing.T, what string, got impl.AnswersResult, code int64) {
	t.Helper()
	if got.Code != code || len(got.Codes) != 0 || len(got.Values) != 0 || len(got.Items) != 0 {
		t.Errorf("%s: got %v, want code %d and nothing else", what, got, code)
	}
}

func wantSameItems(t *testing.T, what string, a, b []impl.Item, want bool) {
	t.Helper()
	if impl.SameItems(a, b) != want || impl.SameItems(b, a) != want {
		t.Errorf("%s: SameItems is not %v", what, want)
	}
}

// slots tell the store in another way, one slot for each Key, so that what the program answers can be held against it.
type slots [21]struct {
	has   bool
	value int64
}

func slotsOf(list []impl.Item) slots {
	var s slots
	for _, it := range list {
		s[it.Key].has, s[it.Key].value = true, it.Value
	}
	return s
}

func (s slots) items() []impl.Item {
	var list []impl.Item
	for key, slot := range s {
		if slot.has {
			list = append(list, item(int64(key), slot.value))
		}
	}
	return list
}

func (s *slots) act(a impl.Act) int64 {
	slot := &s[a.Key]
	switch a.Kind {
	case impl.ActPut:
		slot.has, slot.value = true, a.Value
	case impl.ActAdd:
		slot.has, slot.value = true, slot.value+a.Value
		if slot.value < -20000 || slot.value > 20000 {
			return impl.ErrRange
		}
	case impl.ActDelete:
		if !slot.has {
			return impl.ErrNone
		}
		slot.has, slot.value = false, 0
	case impl.ActCheck:
		if !slot.has || slot.value != a.Value {
			return impl.ErrAbort
		}
	}
	if len(s.items()) > 8 {
		return impl.ErrFull
	}
	return impl.OK
}

// exec works on a copy: with a code s is as it was.
func (s slots) exec(txn impl.Txn) (then slots, value int64, code int64) {
	then = s
	for _, a := range txn.Acts {
		if code := then.act(a); code != impl.OK {
			return s, 0, code
		}
		value = then[a.Key].value
	}
	return then, value, impl.OK
}

type faultyItems struct {
	what string
	list []impl.Item
	code int64
}

func itemBoundsCases() []faultyItems {
	var cases []faultyItems
	rightKeys, wrongKeys := edges(1, 20)
	rightValues, wrongValues := edges(-20000, 20000)
	for _, key := range rightKeys {
		cases = append(cases, faultyItems{fmt.Sprint("Key ", key), []impl.Item{item(key, 0)}, impl.OK})
	}
	for at := range 8 {
		for _, key := range wrongKeys {
			cases = append(cases, faultyItems{fmt.Sprint("Key ", key, " at ", at), withItem(evenItems(8), at, item(key, 0)), impl.ErrRange})
		}
		key := int64(2*at + 2)
		for _, value := range rightValues {
			cases = append(cases, faultyItems{fmt.Sprint("Value ", value, " at ", at), withItem(evenItems(8), at, item(key, value)), impl.OK})
		}
		for _, value := range wrongValues {
			cases = append(cases, faultyItems{fmt.Sprint("Value ", value, " at ", at), withItem(evenItems(8), at, item(key, value)), impl.ErrRange})
		}
	}
	return cases
}

func itemCountCases() []faultyItems {
	cases := []faultyItems{{"nil", nil, impl.OK}, {"empty", []impl.Item{}, impl.OK}}
	var rising []impl.Item
	for key := range int64(20) {
		rising = append(rising, item(key+1, key))
	}
	for count := range 21 {
		code := int64(impl.OK)
		if count > 8 {
			code = impl.ErrMany
		}
		cases = append(cases, faultyItems{fmt.Sprint(count, " items"), rising[:count], code})
		cases = append(cases, faultyItems{fmt.Sprint(count, " items at the end"), rising[20-count:], code})
	}
	return append(cases, faultyItems{"264 items", make([]impl.Item, 264), impl.ErrMany})
}

func itemFormCases() []faultyItems {
	var cases []faultyItems
	for at := range 7 {
		key := int64(2*at + 2)
		cases = append(cases,
			faultyItems{fmt.Sprint("one Key twice at ", at), withItem(evenItems(8), at+1, item(key, 7)), impl.ErrForm},
			faultyItems{fmt.Sprint("one item twice at ", at), withItem(evenItems(8), at+1, evenItems(8)[at]), impl.ErrForm},
			faultyItems{fmt.Sprint("one less at ", at), withItem(evenItems(8), at+1, item(key-1, 7)), impl.ErrForm},
			faultyItems{fmt.Sprint("one more at ", at), withItem(evenItems(8), at+1, item(key+1, 7)), impl.OK})
	}
	return append(cases,
		faultyItems{"two that fall", []impl.Item{item(2, 0), item(1, 0)}, impl.ErrForm},
		faultyItems{"first and last turned round", []impl.Item{item(20, 0), item(5, 0), item(1, 0)}, impl.ErrForm},
		faultyItems{"a Key again, not at once", []impl.Item{item(3, 1), item(5, 1), item(3, 1)}, impl.ErrForm},
		faultyItems{"Values that fall", []impl.Item{item(1, 9), item(2, 8), item(20, -20000)}, impl.OK})
}

// itemOrderCases have several faults each; the first one that is asked is the answer.
func itemOrderCases() []faultyItems {
	nine := evenItems(9)
	return []faultyItems{
		{"nine, a Key", withItem(nine, 0, item(0, 0)), impl.ErrMany},
		{"nine, a Value", withItem(nine, 0, item(1, 20001)), impl.ErrMany},
		{"nine, two of one Key", withItem(nine, 1, item(2, 0)), impl.ErrMany},
		{"nine, the ninth is none", withItem(nine, 8, item(0, -20001)), impl.ErrMany},
		{"Key 0 that does not rise", []impl.Item{item(5, 0), item(0, 0)}, impl.ErrRange},
		{"a Value where it does not rise", []impl.Item{item(5, 0), item(5, 20001)}, impl.ErrRange},
		{"it does not rise, then a Key", []impl.Item{item(5, 0), item(5, 0), item(21, 0)}, impl.ErrForm},
		{"it does not rise, then a Value", []impl.Item{item(5, 0), item(4, 0), item(6, -20001)}, impl.ErrForm},
		{"a Key, then it does not rise", []impl.Item{item(21, 0), item(5, 0)}, impl.ErrRange},
		{"a Value, then it does not rise", []impl.Item{item(5, 20001), item(5, 0)}, impl.ErrRange},
	}
}

func allItemCases() []faultyItems {
	return slices.Concat(itemBoundsCases(), itemCountCases(), itemFormCases(), itemOrderCases())
}

func TestMaxItemsIsEight(t *testing.T) {
	if impl.MaxItems != 8 {
		t.Errorf("got %d", impl.MaxItems)
	}
}

func TestItemsFault(t *testing.T) {
	for _, c := range allItemCases() {
		wantCode(t, c.what, impl.ItemsFault(c.list), c.code)
	}
}

// The others ask the ItemsFault ahead of all else that they speak of.
func TestTheOthersTellTheItemsFaultFirst(t *testing.T) {
	for _, c := range allItemCases() {
		if c.code == impl.OK {
			continue
		}
		for _, key := range []int64{0, 2, 19, 21} {
			wantIntCode(t, fmt.Sprint(c.what, ", ValueAt ", key), impl.ValueAt(c.list, key), c.code)
			wantItemsCode(t, fmt.Sprint(c.what, ", RangeOf from ", key), impl.RangeOf(c.list, key, 8), c.code)
			wantItemsCode(t, fmt.Sprint(c.what, ", RangeOf most ", key), impl.RangeOf(c.list, 2, key), c.code)
		}
		for i, txn := range []impl.Txn{acts(put(2, 1)), acts(remove(19)), acts(holds(2, 77)), acts(), {}, acts(impl.Act{Kind: 5, Key: 1})} {
			wantItemsCode(t, fmt.Sprint(c.what, ", ExecTxn ", i), impl.ExecTxn(c.list, txn), c.code)
			wantAnswersCode(t, fmt.Sprint(c.what, ", ExecAll ", i), impl.ExecAll(c.list, []impl.Txn{txn}), c.code)
		}
		wantAnswersCode(t, c.what+", ExecAll of none", impl.ExecAll(c.list, nil), c.code)
		wantAnswersCode(t, c.what+", ExecAll of 61", impl.ExecAll(c.list, someTxns(61)), c.code)
	}
}

func TestValueAt(t *testing.T) {
	lists := [][]impl.Item{nil, {}, {item(1, -20000)}, {item(20, 20000)}, {item(1, 0), item(20, -1)}, evenItems(7), evenItems(8)}
	for i, list := range lists {
		for key, slot := range slotsOf(list) {
			what := fmt.Sprint("list ", i, ", key ", key)
			if key == 0 {
				wantIntCode(t, what, impl.ValueAt(list, 0), impl.ErrRange)
			} else if slot.has {
				wantInt(t, what, impl.ValueAt(list, int64(key)), slot.value)
			} else {
				wantIntCode(t, what, impl.ValueAt(list, int64(key)), impl.ErrNone)
			}
		}
		_, wrong := edges(1, 20)
		for _, key := range wrong {
			wantIntCode(t, fmt.Sprint("list ", i, ", key ", key), impl.ValueAt(list, key), impl.ErrRange)
		}
	}
}

func TestSameItems(t *testing.T) {
	list := evenItems(8)
	wantSameItems(t, "itself", list, list, true)
	wantSameItems(t, "nothing", nil, nil, true)
	wantSameItems(t, "nil and empty", nil, []impl.Item{}, true)
	wantSameItems(t, "one zero value and none", []impl.Item{{}}, nil, false)
	wantSameItems(t, "fewer", list[:7], list, false)
	wantSameItems(t, "the end alone", list[1:], list, false)
	wantSameItems(t, "turned round", []impl.Item{list[0], list[1]}, []impl.Item{list[1], list[0]}, false)
	wantSameItems(t, "Key and Value turned round", []impl.Item{item(1, 2)}, []impl.Item{item(2, 1)}, false)
	for at := range 8 {
		wantSameItems(t, fmt.Sprint("alike at ", at), list, withItem(list, at, list[at]), true)
		wantSameItems(t, fmt.Sprint("another Key at ", at), list, withItem(list, at, item(list[at].Key+1, list[at].Value)), false)
		wantSameItems(t, fmt.Sprint("another Value at ", at), list, withItem(list, at, item(list[at].Key, list[at].Value+1)), false)
	}
}

// SameItems has no code: what has a fault, and however many there are, is the same or not as well.
func TestSameItemsOfFaultyOnes(t *testing.T) {
	faulty := []impl.Item{item(math.MaxInt64, math.MinInt64), item(0, 20001), item(0, 20001)}
	wantSameItems(t, "faulty and itself", faulty, slices.Clone(faulty), true)
	wantSameItems(t, "faulty and one of them less", faulty, faulty[:2], false)
	wantSameItems(t, "faulty and another", faulty, withItem(faulty, 0, item(math.MaxInt64, 0)), false)
	wantSameItems(t, "nine", evenItems(9), evenItems(9), true)
	wantSameItems(t, "300 and 299", make([]impl.Item, 300), make([]impl.Item, 299), false)
	for _, c := range allItemCases() {
		wantSameItems(t, c.what, c.list, slices.Clone(c.list), true)
	}
}

func rangeLists() [][]impl.Item {
	lists := [][]impl.Item{nil, {}, evenItems(8), {item(1, 5), item(20, -5)}, {item(13, 1), item(14, 0), item(15, -1), item(16, 3), item(17, 9), item(18, 7), item(19, 8), item(20, 2)}}
	for key := range int64(20) {
		lists = append(lists, []impl.Item{item(key+1, -key)})
	}
	return lists
}

func TestRangeOf(t *testing.T) {
	for i, list := range rangeLists() {
		for from := int64(1); from <= 20; from++ {
			for most := int64(1); most <= 8; most++ {
				var want []impl.Item
				for key := from; key <= 20 && int64(len(want)) < most; key++ {
					if slot := slotsOf(list)[key]; slot.has {
						want = append(want, item(key, slot.value))
					}
				}
				wantItems(t, fmt.Sprint("list ", i, ", from ", from, ", most ", most), impl.RangeOf(list, from, most), int64(len(want)), want)
			}
		}
	}
}

func TestRangeOfByHand(t *testing.T) {
	list := []impl.Item{item(1, 10), item(3, 30), item(5, 50)}
	wantItems(t, "from between two, one", impl.RangeOf(list, 2, 1), 1, []impl.Item{item(3, 30)})
	wantItems(t, "from one of them on", impl.RangeOf(list, 3, 8), 2, []impl.Item{item(3, 30), item(5, 50)})
	wantItems(t, "all", impl.RangeOf(list, 1, 8), 3, list)
	wantItems(t, "the first two", impl.RangeOf(list, 1, 2), 2, list[:2])
	wantItems(t, "from behind the last one", impl.RangeOf(list, 6, 8), 0, nil)
	wantItems(t, "of none", impl.RangeOf(nil, 20, 1), 0, nil)
}

// A range that goes on behind the last Key of the one ahead tells all items, each one once.
func TestRangesInPiecesAreTheWhole(t *testing.T) {
	for i, list := range rangeLists() {
		for most := int64(1); most <= 8; most++ {
			var whole []impl.Item
			from := int64(1)
			for from <= 20 {
				piece := impl.RangeOf(list, from, most)
				if piece.Code != impl.OK || piece.Value == 0 {
					break
				}
				whole = append(whole, piece.Items...)
				from = whole[len(whole)-1].Key + 1
			}
			wantSameItems(t, fmt.Sprint("list ", i, " by ", most), whole, list, true)
		}
	}
}

func TestRangeOfRefusesWhatIsOutOfBounds(t *testing.T) {
	_, wrongFroms := edges(1, 20)
	_, wrongMosts := edges(1, 8)
	for _, list := range [][]impl.Item{nil, {}, {item(1, 1)}, evenItems(8)} {
		for _, from := range wrongFroms {
			wantItemsCode(t, fmt.Sprint("from ", from), impl.RangeOf(list, from, 8), impl.ErrRange)
		}
		for _, most := range wrongMosts {
			wantItemsCode(t, fmt.Sprint("most ", most), impl.RangeOf(list, 1, most), impl.ErrRange)
		}
		wantItemsCode(t, "both", impl.RangeOf(list, 0, 9), impl.ErrRange)
	}
}
