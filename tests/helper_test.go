package tests

import (
	"slices"
	"testing"

	"loop.example/g00631/impl"
)

// guarded lays list into a greater array, so that a write ahead of it, into it or into its spare room is seen.
type guarded[T comparable] struct {
	whole []T
	was   []T
	list  []T
}

func guard[T comparable](list []T, mark T) guarded[T] {
	whole := []T{mark, mark}
	whole = append(whole, list...)
	whole = append(whole, mark, mark, mark)
	return guarded[T]{whole: whole, was: slices.Clone(whole), list: whole[2 : 2+len(list)]}
}

func (g guarded[T]) check(t *testing.T, what string) {
	t.Helper()
	if !slices.Equal(g.whole, g.was) {
		t.Errorf("%s: the argument was changed", what)
	}
}

// scribble overwrites list and its spare room.
func scribble[T any](list []T, with T) {
	list = list[:cap(list)]
	for i := range list {
		list[i] = with
	}
}

func wantInt(t *testing.T, what string, got impl.IntResult, want int64) {
	t.Helper()
	if got != (impl.IntResult{Value: want}) {
		t.Errorf("%s: got %v, want %d", what, got, want)
	}
}

func wantIntCode(t *testing.T, what string, got impl.IntResult, code int64) {
	t.Helper()
	if got != (impl.IntResult{Code: code}) {
		t.Errorf("%s: got %v, want code %d and nothing else", what, got, code)
	}
}

func wantBytes(t *testing.T, what string, got impl.BytesResult, want ...byte) {
	t.Helper()
	if got.Code != impl.OK || !slices.Equal(got.Bytes, want) {
		t.Errorf("%s: got %v, want %v", what, got, want)
	}
}

func wantBytesCode(t *testing.T, what string, got impl.BytesResult, code int64) {
	t.Helper()
	if got.Code != code || len(got.Bytes) != 0 {
		t.Errorf("%s: got %v, want code %d and nothing else", what, got, code)
	}
}

func wantInts(t *testing.T, what string, got impl.IntsResult, want ...int64) {
	t.Helper()
	if got.Code != impl.OK || !slices.Equal(got.List, want) {
		t.Errorf("%s: got %v, want %v", what, got, want)
	}
}

func wantIntsCode(t *testing.T, what string, got impl.IntsResult, code int64) {
	t.Helper()
	if got.Code != code || len(got.List) != 0 {
		t.Errorf("%s: got %v, want code %d and nothing else", what, got, code)
	}
}
