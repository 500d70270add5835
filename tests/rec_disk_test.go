package tests

import (
	"fmt"
	"math"
	"math/rand"
	"strings"
	"testing"

	"loop.example/wharflog/impl"
)

func slot(ballot int, text string) impl.RecSlot {
	return impl.RecSlot{Ballot: ballot, Text: text}
}

func slots(list ...impl.RecSlot) []impl.RecSlot {
	return list
}

// manySlots are taken under one ballot, each with a text of its own.
func manySlots(n, ballot int) []impl.RecSlot {
	var list []impl.RecSlot
	for i := range n {
		list = append(list, slot(ballot, fmt.Sprint("s", i)))
	}
	return list
}

func disk(promise, known int, list ...impl.RecSlot) impl.RecDisk {
	return impl.RecDisk{Promise: promise, Known: known, Slots: list}
}

func long(n int) string {
	return strings.Repeat("x", n)
}

func TestDisksThatAreOk(t *testing.T) {
	for _, c := range []struct {
		what string
		d    impl.RecDisk
		want bool
	}{
		{"nothing", impl.RecDisk{}, true},
		{"an empty list", disk(0, 0, slots()...), true},
		{"ordinary", disk(7, 2, slot(3, "a"), slot(7, "b"), slot(0, ""), slot(5, "")), true},

		{"Promise at its limit", disk(1000000, 0), true},
		{"Promise one above", disk(1000001, 0), false},
		{"Promise below 0", disk(-1, 0), false},
		{"Promise far below 0", disk(math.MinInt, 0), false},
		{"Promise far above", disk(math.MaxInt, 0), false},

		{"60 slots", disk(1, 60, manySlots(60, 1)...), true},
		{"61 slots", disk(1, 60, manySlots(61, 1)...), false},
		{"60 empty slots", disk(1, 0, make([]impl.RecSlot, 60)...), true},
		{"61 empty slots", disk(1, 0, make([]impl.RecSlot, 61)...), false},

		{"a Ballot at its limit", disk(1000000, 1, slot(1000000, "a")), true},
		{"a Ballot below 0", disk(5, 0, slot(-1, "")), false},
		{"the last Ballot below 0", disk(5, 1, slot(1, "a"), slot(2, "b"), slot(-1, "")), false},
		{"a Ballot of 0 with a Text", disk(5, 0, slot(0, "a")), false},
		{"the last Ballot is 0 and has a Text", disk(5, 1, slot(1, "a"), slot(0, "b")), false},
		{"a Ballot of 1 and no Text", disk(5, 1, slot(1, "")), true},
		{"a Text of 100 bytes", disk(5, 1, slot(1, long(100))), true},
		{"a Text of 101 bytes", disk(5, 1, slot(1, long(101))), false},
		{"a Text of 100 bytes, runes of two", disk(5, 1, slot(1, strings.Repeat("ü", 50))), true},
		{"a Text of 102 bytes, runes of two", disk(5, 1, slot(1, strings.Repeat("ü", 51))), false},
		{"any bytes", disk(5, 1, slot(1, "\x00\xff\n")), true},

		{"a Ballot that is the Promise", disk(5, 0, slot(5, "a")), true},
		{"a Ballot one above the Promise", disk(5, 0, slot(6, "a")), false},
		{"the last Ballot one above the Promise", disk(5, 1, slot(1, "a"), slot(6, "b")), false},
		{"a known Ballot above the Promise", disk(0, 1, slot(1, "a")), false},

		{"Known 0, a slot taken", disk(5, 0, slot(5, "a")), true},
		{"Known below 0", disk(5, -1, slot(5, "a")), false},
		{"Known far below 0", disk(5, math.MinInt, slot(5, "a")), false},
		{"Known as many as Slots", disk(5, 2, slot(5, "a"), slot(4, "b")), true},
		{"Known one more than Slots", disk(5, 3, slot(5, "a"), slot(4, "b")), false},
		{"Known 1 of none", disk(5, 1), false},
		{"Known far above", disk(5, math.MaxInt, slot(5, "a")), false},
		{"the first known slot not taken", disk(5, 2, slot(0, ""), slot(4, "b")), false},
		{"the last known slot not taken", disk(5, 2, slot(4, "b"), slot(0, "")), false},
		{"the first slot not known is not taken", disk(5, 1, slot(4, "b"), slot(0, "")), true},
	} {
		if soundDisk(c.d) != c.want {
			t.Errorf("%s: the case is not what it says", c.what)
		}
		if got := impl.RecDiskOk(c.d); got != c.want {
			t.Errorf("%s: %v", c.what, got)
		}
		listsKept(t, c.what, c.d, impl.RecDiskOk)
	}
}

// Room behind Slots is no slots.
func TestKnownDoesNotReachBehindSlots(t *testing.T) {
	if d := disk(5, 3, manySlots(4, 1)[:2]...); impl.RecDiskOk(d) {
		t.Error("Known counts what is behind the end")
	}
}

func TestMergedSlots(t *testing.T) {
	a, b, c := slot(1, "a"), slot(2, "b"), slot(3, "c")
	for _, e := range []struct {
		what       string
		a, b, want []impl.RecSlot
	}{
		{"both empty", nil, nil, nil},
		{"both empty, not nil", slots(), slots(), nil},
		{"the first empty", nil, slots(a, b), slots(a, b)},
		{"the second empty", slots(a, b), nil, slots(a, b)},
		{"the first shorter", slots(b), slots(a, c), slots(b, c)},
		{"the second shorter", slots(a, c), slots(b), slots(b, c)},
		{"the greater of the first", slots(c, b), slots(b, a), slots(c, b)},
		{"the greater of the second", slots(a, b), slots(b, c), slots(b, c)},
		{"now one, now the other", slots(c, a, c), slots(a, c, b), slots(c, c, c)},
		{"equal ballots: the first's", slots(slot(2, "x"), slot(2, "")), slots(slot(2, "y"), slot(2, "z")), slots(slot(2, "x"), slot(2, ""))},
		{"a taken slot over one that is not", slots(slot(0, ""), a), slots(b, slot(0, "")), slots(b, a)},
		{"not taken, where there is no other", slots(a), slots(a, slot(0, ""), b), slots(a, slot(0, ""), b)},
		{"below 0", slots(slot(-1, "x"), slot(-5, "y")), slots(slot(-2, "z"), slot(-4, "v"), slot(-9, "w")), slots(slot(-1, "x"), slot(-4, "v"), slot(-9, "w"))},
		{"below 0 against 0", slots(slot(-1, "x")), slots(slot(0, "")), slots(slot(0, ""))},
		{"below 0, where there is no other", nil, slots(slot(-1, "x")), slots(slot(-1, "x"))},
		{"above the limit", slots(slot(1000000, "x")), slots(slot(1000001, "y")), slots(slot(1000001, "y"))},
		{"the ends of the numbers", slots(slot(math.MinInt, "x"), slot(math.MaxInt, "y")), slots(slot(math.MaxInt, "z"), slot(math.MinInt, "v")), slots(slot(math.MaxInt, "z"), slot(math.MaxInt, "y"))},
		{"long texts, and ones with ballot 0", slots(slot(0, "x"), slot(1, long(101))), slots(slot(0, "y"), slot(0, "z")), slots(slot(0, "x"), slot(1, long(101)))},
	} {
		if got := impl.RecMerge(e.a, e.b); !same(got, e.want) {
			t.Errorf("%s: %v and not %v", e.what, got, e.want)
		}
	}
}

// Lists of all lengths about the greatest one and its double; an odd place is the first's, an even one the second's.
func TestMergedSlotsOfAnyLength(t *testing.T) {
	lengths := []int{0, 1, 59, 60, 61, 119, 120, 121, 240, 1000}
	for _, n := range lengths {
		for _, m := range lengths {
			a, b := manySlots(n, 2), manySlots(m, 2)
			for i := range b {
				b[i] = slot(2+(i+1)%2, fmt.Sprint("t", i))
			}
			got := impl.RecMerge(a, b)
			if len(got) != max(n, m) {
				t.Fatalf("%d and %d: %d slots", n, m, len(got))
			}
			for i, s := range got {
				want := slot(2, fmt.Sprint("s", i))
				if i >= n || i < m && i%2 == 0 {
					want = b[i]
				}
				if s != want {
					t.Fatalf("%d and %d: at %d %v and not %v", n, m, i, s, want)
				}
			}
		}
	}
}

type twoLists struct {
	A, B []impl.RecSlot
}

func mergeTwo(l twoLists) []impl.RecSlot {
	return impl.RecMerge(l.A, l.B)
}

// drawSlots are slots of any length, ok or not.
func drawSlots(dice *rand.Rand) []impl.RecSlot {
	lengths := []int{0, 0, 1, 2, 3, 5, 8, 59, 60, 61, 130}
	ballots := []int{-3, -1, 0, 0, 1, 1, 2, 2, 3, 4, 999999, 1000000, 1000001, math.MinInt, math.MaxInt}
	texts := []string{"", "", "a", "b", "c", long(100), long(101), "\xff"}
	var list []impl.RecSlot
	for range lengths[dice.Intn(len(lengths))] {
		list = append(list, slot(ballots[dice.Intn(len(ballots))], texts[dice.Intn(len(texts))]))
	}
	return list
}

// Promise 13.
func TestPromise13Merge(t *testing.T) {
	dice := rand.New(rand.NewSource(13))
	seen := map[string]int{}
	for range 4000 {
		l := twoLists{drawSlots(dice), drawSlots(dice)}
		merged := impl.RecMerge(l.A, l.B)
		if len(merged) != max(len(l.A), len(l.B)) {
			t.Fatalf("%d slots of %+v", len(merged), l)
		}
		for i, got := range merged {
			inA, inB := i < len(l.A), i < len(l.B)
			var want impl.RecSlot
			switch {
			case !inB:
				want = l.A[i]
				seen["the first alone"]++
			case !inA:
				want = l.B[i]
				seen["the second alone"]++
			case l.B[i].Ballot > l.A[i].Ballot:
				want = l.B[i]
				seen["the second's is greater"]++
			default:
				want = l.A[i]
				seen["the first's, or equal"]++
			}
			if got != want {
				t.Fatalf("at %d %v and not %v, of %+v", i, got, want, l)
			}
		}
		for name, again := range map[string][]impl.RecSlot{"with the first": impl.RecMerge(merged, l.A), "with the second": impl.RecMerge(merged, l.B), "behind the first": impl.RecMerge(l.A, merged), "with itself": impl.RecMerge(merged, merged)} {
			if !same(again, merged) {
				t.Fatalf("merged again %s it is %v and not %v", name, again, merged)
			}
		}
		listsKept(t, fmt.Sprintf("%+v", l), l, mergeTwo)
	}
	for _, what := range []string{"the first alone", "the second alone", "the second's is greater", "the first's, or equal"} {
		if seen[what] < 1000 {
			t.Errorf("%s: seen %d times", what, seen[what])
		}
	}
}

// The first merged list stays what it is, whatever is written into the lists that it came from.
func TestMergedSlotsAreNewMemory(t *testing.T) {
	a, b := manySlots(3, 1), manySlots(5, 1)
	merged := impl.RecMerge(a, b)
	for i := range b {
		b[i].Text = "written"
	}
	for i := range a {
		a[i].Text = "written"
	}
	if !same(merged, manySlots(5, 1)) {
		t.Errorf("%v", merged)
	}
	one := manySlots(70, 1)
	if got := impl.RecMerge(one, one); !apart([]span{spanOf(got), spanOf(one)}) {
		t.Error("one list merged with itself is that list")
	}
}
