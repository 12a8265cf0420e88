package tests

import (
	"slices"
	"testing"

	"loop.example/g00631/impl"
)

func wantCode(t *testing.T, what string, got int64, want int64) {
	t.Helper()
	if got != want {
		t.Errorf("%s: got code %d, want %d", what, got, want)
	}
}

func wantInt(t *testing.T, what string, got impl.IntResult, want int64) {
	t.Helper()
	if got != (impl.IntResult{Value: want}) {
		t.Errorf("%s: got %v, want %d", what, got, want)
	}
}

func wantIntCode(t *testing.T, what string, got impl.IntResult, code int64) {
	t.Helper()
	if got != (impl.IntResult{Code: code}) {
		t.Errorf("%s: got %v, want code %d and nothing else", what, got, code)
	}
}

func wantBytes(t *testing.T, what string, got impl.BytesResult, want ...byte) {
	t.Helper()
	if got.Code != impl.OK || !slices.Equal(got.Bytes, want) {
		t.Errorf("%s: got %v, want %v", what, got, want)
	}
}

func wantBytesCode(t *testing.T, what string, got impl.BytesResult, code int64) {
	t.Helper()
	if got.Code != code || len(got.Bytes) != 0 {
		t.Errorf("%s: got %v, want code %d and nothing else", what, got, code)
	}
}

func wantInts(t *testing.T, what string, got impl.IntsResult, want ...int64) {
	t.Helper()
	if got.Code != impl.OK || !slices.Equal(got.List, want) {
		t.Errorf("%s: got %v, want %v", what, got, want)
	}
}

func wantIntsCode(t *testing.T, what string, got impl.IntsResult, code int64) {
	t.Helper()
	if got.Code != code || len(got.List) != 0 {
		t.Errorf("%s: got %v, want code %d and nothing else", what, got, code)
	}
}
