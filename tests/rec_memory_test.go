package tests

import (
	"reflect"
	"slices"
	"testing"

	"loop.example/wharflog/impl"
)

// This file is about the memory of whatever lists a value has, in its fields and in the things of its lists: copies of it with room
// behind each list, and the spans of all of them.

// deepCopy is a copy with each list made by a function of its own.
func deepCopy[T any](v T, list func(reflect.Value) reflect.Value) T {
	fresh := reflect.New(reflect.TypeOf(&v).Elem()).Elem()
	fresh.Set(reflect.ValueOf(&v).Elem())
	copyLists(fresh, list)
	return fresh.Interface().(T)
}

func copyLists(v reflect.Value, list func(reflect.Value) reflect.Value) {
	switch v.Kind() {
	case reflect.Struct:
		for i := range v.NumField() {
			copyLists(v.Field(i), list)
		}
	case reflect.Slice:
		v.Set(list(v))
		for i := range v.Len() {
			copyLists(v.Index(i), list)
		}
	}
}

// roomyOf has something behind the end of each list that nobody may touch.
func roomyOf[T any](v T) T {
	return deepCopy(v, func(list reflect.Value) reflect.Value {
		n := list.Len()
		fresh := reflect.MakeSlice(list.Type(), n+2, n+2)
		reflect.Copy(fresh, list)
		for i := n; i < n+2; i++ {
			mark(fresh.Index(i))
		}
		return fresh.Slice(0, n)
	})
}

// mark makes a thing that is found nowhere else.
func mark(v reflect.Value) {
	switch v.Kind() {
	case reflect.Int:
		v.SetInt(-77)
	case reflect.String:
		v.SetString("~behind")
	case reflect.Struct:
		for i := range v.NumField() {
			mark(v.Field(i))
		}
	}
}

// wholeOf has all that is behind the end of its lists.
func wholeOf[T any](v T) T {
	return deepCopy(v, func(list reflect.Value) reflect.Value {
		fresh := reflect.MakeSlice(list.Type(), list.Cap(), list.Cap())
		reflect.Copy(fresh, list.Slice(0, list.Cap()))
		return fresh
	})
}

// plainOf has no list that is empty but not nil, as the two are one value.
func plainOf[T any](v T) T {
	return deepCopy(v, func(list reflect.Value) reflect.Value {
		if list.Len() == 0 {
			return reflect.Zero(list.Type())
		}
		fresh := reflect.MakeSlice(list.Type(), list.Len(), list.Len())
		reflect.Copy(fresh, list)
		return fresh
	})
}

func same[T any](a, b T) bool {
	return reflect.DeepEqual(plainOf(a), plainOf(b))
}

// listSpans are the spans of all lists of a value.
func listSpans[T any](v T) []span {
	var spans []span
	deepCopy(v, func(list reflect.Value) reflect.Value {
		from := list.Pointer()
		spans = append(spans, span{from, from + uintptr(list.Cap())*list.Type().Elem().Size()})
		fresh := reflect.MakeSlice(list.Type(), list.Len(), list.Len())
		reflect.Copy(fresh, list)
		return fresh
	})
	return spans
}

// listsKept makes a call with arguments that have room behind their lists, and looks at the memory of both.
func listsKept[G, A any](t *testing.T, what string, arguments G, call func(G) A) {
	t.Helper()
	given := roomyOf(arguments)
	before := wholeOf(given)
	answer := call(given)
	if !reflect.DeepEqual(before, wholeOf(given)) {
		t.Errorf("%s: something was written into an argument or behind its end", what)
	}
	if !apart(append(listSpans(given), listSpans(answer)...)) {
		t.Errorf("%s: lists share memory", what)
	}
	if !same(answer, call(arguments)) {
		t.Errorf("%s: what is behind the end of a list is to be seen in the answer", what)
	}
}

func TestListSpansSee(t *testing.T) {
	slots := []impl.RecSlot{{Ballot: 1}, {Ballot: 2}, {Ballot: 3}}
	numbers := []int{1, 2, 3}
	for _, c := range []struct {
		what string
		r    impl.Recorder
		want bool
	}{
		{"nothing", impl.Recorder{}, true},
		{"two disks, one list", impl.Recorder{Safe: impl.RecDisk{Slots: slots}, Disk: impl.RecDisk{Slots: slots}}, false},
		{"a message's slots", impl.Recorder{Best: slots, Held: []impl.RecMessage{{}, {Slots: slots[:0]}}}, false},
		{"spare room", impl.Recorder{Best: slots[:1], Safe: impl.RecDisk{Slots: slots[2:]}}, false},
		{"side by side", impl.Recorder{Best: slots[:1:1], Safe: impl.RecDisk{Slots: slots[2:]}}, true},
		{"two acks", impl.Recorder{Acks: []impl.RecAck{{From: numbers}, {From: numbers}}}, false},
		{"an ack and Yes", impl.Recorder{Yes: slices.Clone(numbers), Acks: []impl.RecAck{{From: numbers}}}, true},
	} {
		if got := apart(listSpans(c.r)); got != c.want {
			t.Errorf("%s: %v", c.what, got)
		}
	}
}

func TestRoomyListsTell(t *testing.T) {
	given := impl.Recorder{Acks: []impl.RecAck{{Index: 1, From: []int{1}}}, Wishes: []string{"w"}}
	for what, write := range map[string]func(r impl.Recorder){
		"into a list":              func(r impl.Recorder) { r.Wishes[0] = "v" },
		"behind a list":            func(r impl.Recorder) { _ = append(r.Wishes, "v") },
		"behind an empty list":     func(r impl.Recorder) { _ = append(r.Best, impl.RecSlot{}) },
		"behind a list in a list":  func(r impl.Recorder) { _ = append(r.Acks[0].From, 2) },
		"behind the list of lists": func(r impl.Recorder) { _ = append(r.Acks, impl.RecAck{}) },
	} {
		roomy := roomyOf(given)
		before := wholeOf(roomy)
		if !same(roomy, given) || reflect.DeepEqual(before, wholeOf(given)) {
			t.Errorf("%s: no room, or another value: %+v", what, roomy)
		}
		write(roomy)
		if reflect.DeepEqual(before, wholeOf(roomy)) {
			t.Errorf("written %s, and not seen", what)
		}
	}
}
