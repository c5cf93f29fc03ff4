package tests

import (
	"slices"

	"loop.example/g00270/impl"
)

// had is what was before a change of a key that had a value, and hadNone of one that had none.
func had(key, value int64) impl.Before {
	return impl.Before{Key: key, Had: true, Value: value}
}

func hadNone(key int64) impl.Before {
	return impl.Before{Key: key}
}

func sameUndo(a, b impl.UndoResult) bool {
	return a.Code == b.Code && sameLeaves(a.Leaves, b.Leaves) && slices.Equal(a.Recs, b.Recs)
}

// wantedBeforesFault, wantedMap, wantedValue, wantedBefore, wantedSet and wantedUndo tell by the document alone what is answered.
func wantedBeforesFault(list []impl.Before) int64 {
	if len(list) > 40 {
		return impl.ErrMany
	}
	for _, b := range list {
		switch {
		case b.Key < 0 || b.Key > 99 || b.Value < 0 || b.Value > 9999:
			return impl.ErrRange
		case b.Value != 0 && !b.Had:
			return impl.ErrForm
		}
	}
	return impl.OK
}

func wantedMap(rows []impl.Row) impl.RowsResult {
	if len(rows) > 240 {
		return impl.RowsResult{Code: impl.ErrMany}
	}
	rise := true
	for i, r := range rows {
		switch {
		case r.Key < 0 || r.Key > 99 || r.Value < 0 || r.Value > 9999:
			return impl.RowsResult{Code: impl.ErrRange}
		case r.Ghost && r.Value != 0:
			return impl.RowsResult{Code: impl.ErrForm}
		}
		rise = rise && (i == 0 || rows[i-1].Key < r.Key)
	}
	if !rise {
		return impl.RowsResult{Code: impl.ErrForm}
	}
	return impl.RowsResult{Rows: slices.DeleteFunc(slices.Clone(rows), func(r impl.Row) bool { return r.Ghost })}
}

func wantedValue(list []impl.Leaf, key int64) impl.IntResult {
	if code := wantedLeavesFault(list); code != impl.OK {
		return impl.IntResult{Code: code}
	}
	if key < 0 || key > 99 {
		return impl.IntResult{Code: impl.ErrRange}
	}
	for _, r := range rowsIn(list) {
		if r.Key == key && !r.Ghost {
			return impl.IntResult{Value: r.Value}
		}
	}
	return impl.IntResult{Code: impl.ErrNone}
}

func wantedBefore(list []impl.Leaf, key int64) impl.Before {
	switch value := wantedValue(list, key); value.Code {
	case impl.OK:
		return had(key, value.Value)
	case impl.ErrNone:
		return hadNone(key)
	}
	return impl.Before{}
}

func wantedSet(list []impl.Leaf, txn, key int64, has bool, value int64) impl.UndoResult {
	code := wantedLeavesFault(list)
	switch {
	case code != impl.OK:
		return impl.UndoResult{Code: code}
	case txn < 1 || txn > 999 || key < 0 || key > 99 || value < 0 || value > 9999:
		return impl.UndoResult{Code: impl.ErrRange}
	case !has && value != 0:
		return impl.UndoResult{Code: impl.ErrForm}
	}
	leaves := cloneOf(list)
	if has {
		code, leaves = wantedPut(list, row(key, value))
	}
	if code != impl.OK {
		return impl.UndoResult{Code: code}
	}
	if at := slices.IndexFunc(rowsIn(list), isKeyOf(key)); !has && at >= 0 {
		_, leaves = wantedPut(list, ghost(key))
	}
	was := wantedBefore(list, key)
	set := change(impl.LogSet, txn, key, some{was.Had, was.Value}, some{has, value})
	return impl.UndoResult{Leaves: leaves, Recs: []impl.Rec{set}}
}

func wantedUndo(list []impl.Leaf, txn int64, befores []impl.Before) impl.UndoResult {
	code := wantedLeavesFault(list)
	if code == impl.OK && (txn < 1 || txn > 999) {
		code = impl.ErrRange
	}
	if code == impl.OK {
		code = wantedBeforesFault(befores)
	}
	if code != impl.OK {
		return impl.UndoResult{Code: code}
	}
	want := impl.UndoResult{Leaves: cloneOf(list)}
	for i := len(befores) - 1; i >= 0; i-- {
		step := wantedSet(want.Leaves, txn, befores[i].Key, befores[i].Had, befores[i].Value)
		if step.Code != impl.OK {
			return impl.UndoResult{Code: step.Code}
		}
		back := step.Recs[0]
		back.Kind = impl.LogBack
		want.Leaves, want.Recs = step.Leaves, append(want.Recs, back)
	}
	return want
}
