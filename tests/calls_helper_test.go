package tests

import (
	"reflect"
	"sync"
	"testing"
)

// call is one call of an exported function, for promise 1: its arguments are laid out, so that a write to them is seen.
type call struct {
	what      string
	answer    func() any
	swapped   func() any // the same call, nil for each empty list of its arguments and an empty list for each nil
	arguments []any
	laid      *layout
}

func call0[R any](what string, f func() R) call {
	return call{what, func() any { return f() }, func() any { return f() }, nil, &layout{}}
}

func call1[A, R any](what string, f func(A) R, a A) call {
	l := &layout{}
	x := layOut(l, a)
	return call{what, func() any { return f(x) }, func() any { return f(swapEmpty(x)) }, []any{x}, l}
}

func call2[A, B, R any](what string, f func(A, B) R, a A, b B) call {
	l := &layout{}
	x, y := layOut(l, a), layOut(l, b)
	return call{what, func() any { return f(x, y) }, func() any { return f(swapEmpty(x), swapEmpty(y)) }, []any{x, y}, l}
}

func call3[A, B, C, R any](what string, f func(A, B, C) R, a A, b B, c C) call {
	l := &layout{}
	x, y, z := layOut(l, a), layOut(l, b), layOut(l, c)
	return call{what, func() any { return f(x, y, z) }, func() any { return f(swapEmpty(x), swapEmpty(y), swapEmpty(z)) }, []any{x, y, z}, l}
}

// call4 takes a list or struct and numbers alone: a number is neither laid out nor empty.
func call4[A, R any](what string, f func(A, int64, int64, int64) R, a A, n, m, o int64) call {
	return call1(what, func(x A) R { return f(x, n, m, o) }, a)
}

func call5[A, R any](what string, f func(A, int64, int64, int64, int64) R, a A, n, m, o, p int64) call {
	return call1(what, func(x A) R { return f(x, n, m, o, p) }, a)
}

// checkCalls asks promise 1 of every call.
func checkCalls(t *testing.T, calls []call) {
	t.Helper()
	first, kept := make([]any, len(calls)), make([]any, len(calls))
	for i, c := range calls {
		kept[i] = c.answer()
		first[i] = copied(kept[i])
		c.laid.check(t, c.what)
		checkNewMemory(t, c.what, kept[i], c.arguments)
		checkNothingBesideCode(t, c.what, first[i])
		if swapped := c.swapped(); !reflect.DeepEqual(emptyAsNil(first[i]), emptyAsNil(swapped)) {
			t.Errorf("%s: %v, but %v with nil for empty and empty for nil", c.what, first[i], swapped)
		}
	}
	checkRepeats(t, calls, first)
	checkSideBySide(t, calls, first)
	for i, c := range calls {
		if !reflect.DeepEqual(first[i], kept[i]) {
			t.Errorf("%s: later calls made %v of the answer %v", c.what, kept[i], first[i])
		}
	}
}

// checkRepeats goes backwards, so that what a call left behind would meet others; then an answer that is written over must leave later ones.
func checkRepeats(t *testing.T, calls []call, first []any) {
	t.Helper()
	for i := len(calls) - 1; i >= 0; i-- {
		again := calls[i].answer()
		if !reflect.DeepEqual(first[i], again) {
			t.Errorf("%s: first %v, then %v", calls[i].what, first[i], again)
		}
		overwrite(again)
		calls[i].laid.check(t, calls[i].what+", its answer written over")
		if later := calls[i].answer(); !reflect.DeepEqual(first[i], later) {
			t.Errorf("%s: first %v, then %v behind an answer that was written over", calls[i].what, first[i], later)
		}
	}
}

func checkSideBySide(t *testing.T, calls []call, first []any) {
	t.Helper()
	answers := make([][]any, 4)
	var all sync.WaitGroup
	for w := range answers {
		all.Go(func() {
			for _, c := range calls {
				answers[w] = append(answers[w], c.answer())
			}
		})
	}
	all.Wait()
	for _, others := range answers {
		for i, c := range calls {
			if !reflect.DeepEqual(first[i], others[i]) {
				t.Errorf("%s: alone %v, beside others %v", c.what, first[i], others[i])
			}
		}
	}
}

func checkNothingBesideCode(t *testing.T, what string, answer any) {
	t.Helper()
	v := reflect.ValueOf(answer)
	if v.Kind() != reflect.Struct || !v.FieldByName("Code").IsValid() || v.FieldByName("Code").Int() == 0 {
		return
	}
	bare := reflect.New(v.Type()).Elem()
	bare.FieldByName("Code").Set(v.FieldByName("Code"))
	if !reflect.DeepEqual(emptyAsNil(answer), emptyAsNil(bare.Interface())) {
		t.Errorf("%s: %v has more than its code", what, answer)
	}
}
