package tests

import (
	"fmt"
	"reflect"
	"testing"
)

// The helpers of this file go through any value by reflection, so that they serve the arguments and answers of every layer.

// layout remembers the arrays that arguments were laid into, and what stood there.
type layout struct {
	wholes []reflect.Value
	were   []any
}

// layOut copies v, each of its lists into the middle of a greater array, so that a write ahead of it, into it or into its spare room is seen.
func layOut[A any](l *layout, v A) A {
	from := len(l.wholes)
	out := l.lay(reflect.ValueOf(v)).Interface().(A)
	for _, whole := range l.wholes[from:] {
		l.were = append(l.were, copied(whole.Interface()))
	}
	return out
}

func (l *layout) check(t *testing.T, what string) {
	t.Helper()
	for i, whole := range l.wholes {
		if !reflect.DeepEqual(whole.Interface(), l.were[i]) {
			t.Errorf("%s: an argument was changed: %v was %v", what, whole, l.were[i])
		}
	}
}

func (l *layout) lay(v reflect.Value) reflect.Value {
	return mapped(v, func(list reflect.Value) reflect.Value {
		if list.IsNil() {
			return list
		}
		size := list.Len()
		whole := reflect.MakeSlice(list.Type(), size+5, size+5)
		reflect.Copy(whole.Slice(2, 2+size), list)
		for _, at := range []int{0, 1, size + 2, size + 3, size + 4} {
			mark(whole.Index(at))
		}
		l.wholes = append(l.wholes, whole)
		return whole.Slice(2, 2+size)
	})
}

// mapped copies v deeply, every list of it (the inner ones first) as turn makes it.
func mapped(v reflect.Value, turn func(reflect.Value) reflect.Value) reflect.Value {
	out := reflect.New(v.Type()).Elem()
	out.Set(v)
	switch v.Kind() {
	case reflect.Struct:
		for i := range v.NumField() {
			out.Field(i).Set(mapped(v.Field(i), turn))
		}
	case reflect.Array:
		for i := range v.Len() {
			out.Index(i).Set(mapped(v.Index(i), turn))
		}
	case reflect.Slice:
		if !v.IsNil() {
			out.Set(reflect.MakeSlice(v.Type(), v.Len(), v.Len()))
		}
		for i := range v.Len() {
			out.Index(i).Set(mapped(v.Index(i), turn))
		}
		out.Set(turn(out))
	}
	return out
}

func copied(v any) any {
	return mapped(reflect.ValueOf(v), func(list reflect.Value) reflect.Value { return list }).Interface()
}

// swapEmpty copies v, nil for each empty list and an empty list for each nil.
func swapEmpty[A any](v A) A {
	return mapped(reflect.ValueOf(v), func(list reflect.Value) reflect.Value {
		if list.IsNil() {
			return reflect.MakeSlice(list.Type(), 0, 3)
		}
		if list.Len() == 0 {
			return reflect.Zero(list.Type())
		}
		return list
	}).Interface().(A)
}

func emptyAsNil(v any) any {
	return mapped(reflect.ValueOf(v), func(list reflect.Value) reflect.Value {
		if list.Len() == 0 {
			return reflect.Zero(list.Type())
		}
		return list
	}).Interface()
}

// mark writes over v with what no right value has.
func mark(v reflect.Value) {
	switch v.Kind() {
	case reflect.Int64:
		v.SetInt(-7777777)
	case reflect.Uint8:
		v.SetUint(170)
	case reflect.Bool:
		v.SetBool(true)
	case reflect.String:
		v.SetString("mark")
	case reflect.Struct:
		for i := range v.NumField() {
			mark(v.Field(i))
		}
	case reflect.Array:
		for i := range v.Len() {
			mark(v.Index(i))
		}
	case reflect.Slice:
		v.SetZero()
	default:
		panic(fmt.Sprint("no mark for a ", v.Type()))
	}
}

// overwrite marks all that the lists of an answer hold, with their spare room.
func overwrite(answer any) {
	for _, list := range listsIn(reflect.ValueOf(answer)) {
		whole := list.Slice(0, list.Cap())
		for i := range whole.Len() {
			mark(whole.Index(i))
		}
	}
}

func listsIn(v reflect.Value) []reflect.Value {
	var lists []reflect.Value
	switch v.Kind() {
	case reflect.Struct:
		for i := range v.NumField() {
			lists = append(lists, listsIn(v.Field(i))...)
		}
	case reflect.Array:
		for i := range v.Len() {
			lists = append(lists, listsIn(v.Index(i))...)
		}
	case reflect.Slice:
		for i := range v.Len() {
			lists = append(lists, listsIn(v.Index(i))...)
		}
		lists = append(lists, v)
	}
	return lists
}

// checkNewMemory: no list of the answer has memory, spare room counted, in common with another one or with an argument.
func checkNewMemory(t *testing.T, what string, answer any, arguments []any) {
	t.Helper()
	lists := spansIn(answer)
	var given []span
	for _, argument := range arguments {
		given = append(given, spansIn(argument)...)
	}
	for i, list := range lists {
		for _, other := range lists[:i] {
			if overlap(list, other) {
				t.Errorf("%s: two lists of the answer share memory: %v, %v", what, list.list, other.list)
			}
		}
		for _, other := range given {
			if overlap(list, other) {
				t.Errorf("%s: the answer shares memory with an argument: %v, %v", what, list.list, other.list)
			}
		}
	}
}

// span is where a list lies, its spare room counted.
type span struct {
	list       reflect.Value
	begin, end uintptr
}

// spansIn asks each list once where it lies: checkNewMemory holds every one against every other.
func spansIn(v any) []span {
	var spans []span
	for _, list := range listsIn(reflect.ValueOf(v)) {
		begin := list.Pointer()
		spans = append(spans, span{list, begin, begin + uintptr(list.Cap())*list.Type().Elem().Size()})
	}
	return spans
}

// overlap: what has no room at all lies nowhere.
func overlap(a, b span) bool {
	return a.begin < a.end && b.begin < b.end && a.begin < b.end && b.begin < a.end
}
