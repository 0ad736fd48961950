package tests

import (
	"reflect"
	"runtime"
	"strings"
	"testing"
)

// span is the memory of a slice, its unused capacity included.
type span struct {
	from, to uintptr
	// The numbers alone do not hold the memory: without its owner, another slice could get it before the spans are compared.
	owner reflect.Value
}

// purely calls a function of the program twice and checks what promise 1 and the conventions ask of every function:
// it returns, changes no argument, returns equal results for equal arguments, keeps and shares no memory,
// and returns zero values together with an error or with false. It returns the results.
func purely(t *testing.T, fn any, args ...any) []any {
	t.Helper()
	f := reflect.ValueOf(fn)
	name := functionName(f)
	defer func() {
		if p := recover(); p != nil {
			t.Errorf("%s%+v panics: %v", name, args, p)
		}
	}()
	first, firstSpans := callOnCopies(t, name, f, args)
	second, secondSpans := callOnCopies(t, name, f, args)
	if !reflect.DeepEqual(first, second) {
		t.Errorf("%s%+v: first %+v, then %+v", name, args, first, second)
	}
	if overlap(append(firstSpans, secondSpans...)) {
		t.Errorf("%s%+v: slices share memory", name, args)
	}
	checkZeroValues(t, name, args, first)
	return first
}

func functionName(f reflect.Value) string {
	full := runtime.FuncForPC(f.Pointer()).Name()
	return full[strings.LastIndex(full, ".")+1:]
}

// callOnCopies calls f with copies of args, and returns its results and the memory of all slices involved.
func callOnCopies(t *testing.T, name string, f reflect.Value, args []any) ([]any, []span) {
	t.Helper()
	var in, kept []reflect.Value
	var spans []span
	for i, a := range args {
		v := reflect.ValueOf(a).Convert(f.Type().In(i))
		in = append(in, roomyCopy(v))
		kept = append(kept, roomyCopy(v))
		spans = append(spans, spansOf(in[i])...)
	}
	var out []any
	for _, v := range f.Call(in) {
		out = append(out, v.Interface())
		spans = append(spans, spansOf(v)...)
	}
	for i := range in {
		if !reflect.DeepEqual(wholeOf(in[i]).Interface(), wholeOf(kept[i]).Interface()) {
			t.Errorf("%s%+v: argument %d is modified", name, args, i)
		}
	}
	return out, spans
}

// roomyCopy returns a deep copy in which each slice that is not nil has an unused capacity with numbers of its own.
func roomyCopy(v reflect.Value) reflect.Value {
	c := reflect.New(v.Type()).Elem()
	switch v.Kind() {
	case reflect.Struct:
		for i := range v.NumField() {
			c.Field(i).Set(roomyCopy(v.Field(i)))
		}
	case reflect.Slice:
		if v.IsNil() {
			return c
		}
		whole := reflect.MakeSlice(v.Type(), v.Len()+3, v.Len()+3)
		for i := range v.Len() {
			whole.Index(i).Set(roomyCopy(v.Index(i)))
		}
		for i := v.Len(); i < whole.Len(); i++ {
			mark(whole.Index(i))
		}
		c.Set(whole.Slice(0, v.Len()))
	default:
		c.Set(v)
	}
	return c
}

// mark gives a value in the unused capacity of a slice a content that no function would write there.
func mark(v reflect.Value) {
	switch v.Kind() {
	case reflect.Int64:
		v.SetInt(-777)
	case reflect.String:
		v.SetString("spare")
	case reflect.Bool:
		v.SetBool(true)
	case reflect.Struct:
		for i := range v.NumField() {
			mark(v.Field(i))
		}
	}
}

// wholeOf returns a deep copy in which each slice has the elements of its unused capacity as well.
func wholeOf(v reflect.Value) reflect.Value {
	c := reflect.New(v.Type()).Elem()
	switch v.Kind() {
	case reflect.Struct:
		for i := range v.NumField() {
			c.Field(i).Set(wholeOf(v.Field(i)))
		}
	case reflect.Slice:
		if v.IsNil() {
			return c
		}
		c.Set(reflect.MakeSlice(v.Type(), v.Cap(), v.Cap()))
		for i := range v.Cap() {
			c.Index(i).Set(wholeOf(v.Slice(0, v.Cap()).Index(i)))
		}
	default:
		c.Set(v)
	}
	return c
}

func spansOf(v reflect.Value) []span {
	var spans []span
	switch v.Kind() {
	case reflect.Struct:
		for i := range v.NumField() {
			spans = append(spans, spansOf(v.Field(i))...)
		}
	case reflect.Slice:
		if v.Cap() > 0 {
			spans = append(spans, span{v.Pointer(), v.Pointer() + uintptr(v.Cap())*v.Type().Elem().Size(), v})
		}
		for i := range v.Len() {
			spans = append(spans, spansOf(v.Index(i))...)
		}
	}
	return spans
}

func overlap(spans []span) bool {
	for i, a := range spans {
		for _, b := range spans[:i] {
			if a.from < b.to && b.from < a.to {
				return true
			}
		}
	}
	return false
}

// checkZeroValues checks the results before a code that is not OK, or before false.
func checkZeroValues(t *testing.T, name string, args, results []any) {
	t.Helper()
	last := reflect.ValueOf(results[len(results)-1])
	failed := last.Kind() == reflect.Int64 && last.Int() != 0 || last.Kind() == reflect.Bool && !last.Bool()
	if !failed {
		return
	}
	for i, r := range results[:len(results)-1] {
		v := reflect.ValueOf(r)
		if !v.IsZero() && !(v.Kind() == reflect.Slice && v.Len() == 0) {
			t.Errorf("%s%+v: result %d is %+v together with %v", name, args, i, r, last)
		}
	}
}
