package tests

import (
	"reflect"
	"testing"
)

// remade copies a value; of each list in it, however deep, shape tells what is copied and the new list that takes it.
func remade(v reflect.Value, shape func(list reflect.Value) (from, to reflect.Value)) reflect.Value {
	made := reflect.New(v.Type()).Elem()
	switch v.Kind() {
	case reflect.Slice:
		from, to := shape(v)
		if hasNoLists(v.Type().Elem()) {
			reflect.Copy(to, from)
			made.Set(to)
			break
		}
		for i := range from.Len() {
			to.Index(i).Set(remade(from.Index(i), shape))
		}
		made.Set(to)
	case reflect.Struct:
		for i := range v.NumField() {
			made.Field(i).Set(remade(v.Field(i), shape))
		}
	default:
		made.Set(v)
	}
	return made
}

// hasNoLists asks whether values of a type can be copied as they are, which is much faster.
func hasNoLists(of reflect.Type) bool {
	switch of.Kind() {
	case reflect.Struct:
		for i := range of.NumField() {
			if !hasNoLists(of.Field(i).Type) {
				return false
			}
		}
		return true
	case reflect.Slice, reflect.Interface:
		return false
	}
	return true
}

func remadeAs[T any](v T, shape func(list reflect.Value) (from, to reflect.Value)) T {
	return remade(reflect.ValueOf(&v).Elem(), shape).Interface().(T)
}

// bareOf copies a value; a list that is empty is nil there.
func bareOf[T any](v T) T {
	return remadeAs(v, func(list reflect.Value) (reflect.Value, reflect.Value) {
		if list.Len() == 0 {
			return list, reflect.Zero(list.Type())
		}
		return list, reflect.MakeSlice(list.Type(), list.Len(), list.Len())
	})
}

// emptyOf copies a value; a list that is nil is empty there.
func emptyOf[T any](v T) T {
	return remadeAs(v, func(list reflect.Value) (reflect.Value, reflect.Value) {
		return list, reflect.MakeSlice(list.Type(), list.Len(), list.Len())
	})
}

// wholeCopy copies a value with all that is within its reach: the room behind its lists is part of them there.
func wholeCopy[T any](v T) T {
	return remadeAs(v, func(list reflect.Value) (reflect.Value, reflect.Value) {
		return list.Slice(0, list.Cap()), reflect.MakeSlice(list.Type(), list.Cap(), list.Cap())
	})
}

// roomyCopy copies a value with room behind each list, which is not empty, so that an append to the copy would be seen there.
func roomyCopy[T any](v T) T {
	return remadeAs(v, func(list reflect.Value) (reflect.Value, reflect.Value) {
		whole := reflect.MakeSlice(list.Type(), list.Len()+3, list.Len()+3)
		for i := list.Len(); i < whole.Len(); i++ {
			markAll(whole.Index(i))
		}
		return list, whole.Slice(0, list.Len())
	})
}

// markAll gives each number and bool within a value something that no call would write.
func markAll(v reflect.Value) {
	switch v.Kind() {
	case reflect.Int64:
		v.SetInt(-7777)
	case reflect.Uint8:
		v.SetUint(77)
	case reflect.Bool:
		v.SetBool(true)
	case reflect.Struct:
		for i := range v.NumField() {
			markAll(v.Field(i))
		}
	}
}

// same holds two values against each other; an empty list and nil are the same.
func same[T any](a, b T) bool {
	return reflect.DeepEqual(bareOf(a), bareOf(b))
}

// span is a stretch of memory.
type span struct{ from, to uintptr }

// spansIn has the memory of all lists within a value, with the room behind them.
func spansIn(v reflect.Value) []span {
	var spans []span
	switch v.Kind() {
	case reflect.Slice:
		if v.Cap() > 0 {
			from := v.Pointer()
			spans = append(spans, span{from, from + uintptr(v.Cap())*v.Type().Elem().Size()})
		}
		for i := range v.Len() {
			spans = append(spans, spansIn(v.Index(i))...)
		}
	case reflect.Struct:
		for i := range v.NumField() {
			spans = append(spans, spansIn(v.Field(i))...)
		}
	case reflect.Interface:
		return spansIn(v.Elem())
	}
	return spans
}

// checkApart asks that no two lists of an answer share memory, and none of them with one of the others.
func checkApart(t *testing.T, name string, answer any, others ...any) {
	t.Helper()
	own := spansIn(reflect.ValueOf(answer))
	against := spansIn(reflect.ValueOf(others))
	for i, one := range own {
		for _, other := range append(against, own[:i]...) {
			if one.from < other.to && other.from < one.to {
				t.Fatalf("%s: a list of the answer shares memory with another one: %v", name, answer)
			}
		}
	}
}

// checkStays asks that calls change nothing within reach of what they are given, answer the same at each call, and where its lists are nil or empty.
func checkStays[T, A any](t *testing.T, odd T, calls func(T) A) {
	t.Helper()
	given := roomyCopy(odd)
	before := wholeCopy(given)
	first := calls(given)
	for range 3 {
		if !reflect.DeepEqual(calls(given), first) {
			t.Fatalf("another answer at another call, of %v", odd)
		}
	}
	if !reflect.DeepEqual(wholeCopy(given), before) {
		t.Fatalf("what is given is changed: %v", odd)
	}
	for _, other := range []T{bareOf(odd), emptyOf(odd)} {
		if !same(calls(other), first) {
			t.Fatalf("another answer where lists are nil or empty, of %v", odd)
		}
	}
}

// checkKept asks that an answer stays when all that was given is marked, and another answer to the same.
func checkKept[T, A any](t *testing.T, some T, calls func(T) A) {
	t.Helper()
	given := roomyCopy(some)
	first, second := calls(given), calls(given)
	want := bareOf(first)
	markReach(reflect.ValueOf(given))
	markReach(reflect.ValueOf(second))
	if !same(first, want) {
		t.Fatalf("an answer turned with what was given or with another one: %v", some)
	}
}

// markReach marks all that is within reach of a value's lists.
func markReach(v reflect.Value) {
	switch v.Kind() {
	case reflect.Slice:
		whole := v.Slice(0, v.Cap())
		for i := range whole.Len() {
			markReach(whole.Index(i))
			markAll(whole.Index(i))
		}
	case reflect.Struct:
		for i := range v.NumField() {
			markReach(v.Field(i))
		}
	}
}

// TestSharedMemoryIsSeen asks the helpers themselves: what would pass everything is no test.
func TestSharedMemoryIsSeen(t *testing.T) {
	type pairOfLists struct{ A, B []int64 }
	list := []int64{1, 2, 3, 4}
	spans := spansIn(reflect.ValueOf([]any{pairOfLists{A: list[:1], B: list[3:]}, [][]int64{list}}))
	if len(spans) != 5 {
		t.Fatalf("%d spans, want 5: %v", len(spans), spans)
	}
	if a, b := spans[1], spans[2]; a.to != b.to || b.to-b.from != 8 || a.to-a.from != 32 {
		t.Errorf("the spans of the pair are %v and %v", a, b)
	}
	roomy := roomyCopy(pairOfLists{A: list})
	before := wholeCopy(roomy)
	if !same(roomy, pairOfLists{A: list}) || len(before.A) != 7 || len(before.B) != 3 {
		t.Errorf("roomy: %v, whole: %v", roomy, before)
	}
	_ = append(roomy.B, 0)
	if reflect.DeepEqual(wholeCopy(roomy), before) {
		t.Error("what is appended to a list is not seen")
	}
	if !same(pairOfLists{A: []int64{}}, pairOfLists{}) || same(pairOfLists{A: list}, pairOfLists{B: list}) || same(pairOfLists{A: list[:3]}, pairOfLists{A: list}) {
		t.Error("same takes what differs for the same, or nil for something")
	}
}
