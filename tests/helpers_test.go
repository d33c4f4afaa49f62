package tests

import (
	"reflect"
	"testing"
)

// copyOf is a copy of a value that shares no memory with it; the empty list is nil in it.
func copyOf[T any](v T) T {
	return spread(reflect.ValueOf(v), 0).Interface().(T)
}

// roomy is a copy of a value with spare room behind each list.
func roomy[T any](v T) T {
	return spread(reflect.ValueOf(v), 3).Interface().(T)
}

func spread(v reflect.Value, room int) reflect.Value {
	switch v.Kind() {
	case reflect.Slice:
		if v.Len()+room == 0 {
			return reflect.Zero(v.Type())
		}
		list := reflect.MakeSlice(v.Type(), v.Len(), v.Len()+room)
		for i := range v.Len() {
			list.Index(i).Set(spread(v.Index(i), room))
		}
		return list
	case reflect.Struct:
		parts := reflect.New(v.Type()).Elem()
		for i := range v.NumField() {
			parts.Field(i).Set(spread(v.Field(i), room))
		}
		return parts
	}
	return v
}

// same holds two values against each other; the empty list is no other one than nil.
func same[T any](a, b T) bool {
	return reflect.DeepEqual(copyOf(a), copyOf(b))
}

// eachList goes through all lists of a value, in whatever depth.
func eachList(v reflect.Value, do func(list reflect.Value)) {
	switch v.Kind() {
	case reflect.Slice:
		do(v)
		for i := range v.Len() {
			eachList(v.Index(i), do)
		}
	case reflect.Struct:
		for i := range v.NumField() {
			eachList(v.Field(i), do)
		}
	}
}

// checkUntouched asks that a value which a call was given, made by roomy of another one, is as that was, spare room included.
func checkUntouched[T any](t *testing.T, given, before T) {
	t.Helper()
	if !same(given, before) {
		t.Errorf("what was given has become %+v, was %+v", given, before)
	}
	eachList(reflect.ValueOf(given), func(list reflect.Value) {
		for i := list.Len(); i < list.Cap(); i++ {
			if spare := list.Slice(0, list.Cap()).Index(i); !spare.IsZero() {
				t.Errorf("%+v stands behind the end of %+v", spare, list)
			}
		}
	})
}

// checkApart asks that no two lists of an answer share memory, spare room included, and none with what was given.
func checkApart(t *testing.T, answer any, given ...any) {
	t.Helper()
	type stretch struct{ from, to uintptr }
	var met []stretch
	for i, v := range append([]any{answer}, given...) {
		eachList(reflect.ValueOf(v), func(list reflect.Value) {
			s := stretch{list.Pointer(), list.Pointer() + uintptr(list.Cap())*list.Type().Elem().Size()}
			if s.from == s.to {
				return
			}
			for _, other := range met {
				if s.from < other.to && other.from < s.to {
					t.Errorf("%+v shares its memory with another list of %+v", list, answer)
				}
			}
			if i == 0 {
				met = append(met, s)
			}
		})
	}
}

func TestHelpers(t *testing.T) {
	type part struct{ Words []string }
	type whole struct {
		Numbers []int
		Parts   []part
	}
	v := whole{[]int{1, 2}, []part{{[]string{"a"}}, {}}}
	for _, other := range []whole{copyOf(v), roomy(v)} {
		if !same(v, other) || same(v, whole{}) || same(v, whole{[]int{1, 2}, []part{{[]string{"b"}}, {}}}) {
			t.Errorf("%+v, %+v", v, other)
		}
		checkUntouched(t, other, v)
		checkApart(t, other, v)
	}
	quiet := &testing.T{}
	checkApart(quiet, v, v.Parts[0].Words[:0])
	if !quiet.Failed() {
		t.Error("memory that is shared is not found")
	}
	quiet, given := &testing.T{}, roomy(v)
	given.Parts[1].Words = append(given.Parts[1].Words, "z")[:0]
	checkUntouched(quiet, given, v)
	if !quiet.Failed() {
		t.Error("what stands behind an end is not found")
	}
}
