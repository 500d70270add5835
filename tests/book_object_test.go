package tests

import (
	"fmt"
	"math"
	"reflect"
	"strings"
	"testing"

	"loop.example/wharflog/impl"
)

func thing(kind, name string, version, born int, holds ...string) impl.BookObject {
	return impl.BookObject{Kind: kind, Name: name, Version: version, Born: born, Holds: holds}
}

func ending(o impl.BookObject) impl.BookObject {
	o.Ending = true
	return o
}

func told(o impl.BookObject) impl.BookChange {
	return impl.BookChange{Version: o.Version, Object: o}
}

func gone(o impl.BookObject) impl.BookChange {
	return impl.BookChange{Version: o.Version, Gone: true, Object: ending(o)}
}

func ticket(client string) impl.BookTicket {
	return impl.BookTicket{Client: client, Number: 1, Print: "\x00\xff\"\\ ab\n"}
}

// shelf is a valid book with something of everything. Places of History: 0 job/a is made, 1 job/b is changed (made long ago),
// 2 job/a gets a hold, 3 job/a is ending, 4 job/c is made, 5 job/a is gone, 6 job/b is gone, 7 job/a is made again.
func shelf() impl.Book {
	return impl.Book{Now: 18, Floor: 10,
		Objects: []impl.BookObject{thing("disk", "a", 3, 1), ending(thing("disk", "b", 10, 10, "h")), thing("job", "a", 18, 18, "x", "y"), thing("job", "c", 15, 15)},
		History: []impl.BookChange{
			told(thing("job", "a", 11, 11)), told(thing("job", "b", 12, 4)), told(thing("job", "a", 13, 11, "h")), told(ending(thing("job", "a", 14, 11, "h"))),
			told(thing("job", "c", 15, 15)), gone(thing("job", "a", 16, 11)), gone(thing("job", "b", 17, 4)), told(thing("job", "a", 18, 18, "x", "y"))},
		Tickets: []impl.BookTicket{ticket("ann"), ticket("bob")},
	}
}

// resting is a book of objects alone: nothing happened above its Floor.
func resting(now int, objects ...impl.BookObject) impl.Book {
	return impl.Book{Now: now, Floor: now, Objects: objects}
}

// spoilt is a book that was changed, and the points that it is to break.
type spoilt struct {
	what   string
	change func(b *impl.Book)
	points []int
}

func wantSpoilt(t *testing.T, cases []spoilt) {
	t.Helper()
	for _, c := range cases {
		b := shelf()
		c.change(&b)
		wantPoints(t, c.what, b, c.points...)
	}
}

func TestOrdinaryBooksAreValid(t *testing.T) {
	wantPoints(t, "nothing", impl.Book{})
	wantPoints(t, "shelf", shelf())
	wantPoints(t, "empty lists", impl.Book{Objects: []impl.BookObject{}, History: []impl.BookChange{}, Tickets: []impl.BookTicket{}})
	wantPoints(t, "all forgotten", impl.Book{Now: 7, Floor: 7})
	wantPoints(t, "one object", resting(1, thing("k", "n", 1, 1)))
	wantPoints(t, "one creation", impl.Book{Now: 1, Objects: []impl.BookObject{thing("k", "n", 1, 1)}, History: []impl.BookChange{told(thing("k", "n", 1, 1))}})
}

func TestPoint1Numbers(t *testing.T) {
	for _, c := range []struct {
		now, floor int
		points     []int
	}{
		{0, 0, nil}, {1, 1, nil}, {1000000, 1000000, nil},
		{-1, -1, []int{1}}, {0, 1, []int{1}}, {5, 6, []int{1}}, {1000001, 1000001, []int{1}}, {1000000, 1000001, []int{1}},
		{math.MaxInt, math.MaxInt, []int{1}}, {math.MinInt, math.MinInt, []int{1}}, {0, math.MaxInt, []int{1}},
		{1, 0, []int{3}}, {0, -1, []int{1, 3}}, {1000001, 1000000, []int{1, 3}},
	} {
		wantPoints(t, fmt.Sprintf("Now %d, Floor %d", c.now, c.floor), impl.Book{Now: c.now, Floor: c.floor}, c.points...)
	}
	for _, b := range []impl.Book{{Now: math.MinInt, Floor: math.MaxInt}, {Now: math.MinInt}, {Now: math.MaxInt, Floor: math.MinInt}} {
		if impl.BookValid(b) { // from one to the other it wraps round, so that no point can be told by counting
			t.Errorf("Now %d, Floor %d: valid", b.Now, b.Floor)
		}
	}
}

func TestPoint2Objects(t *testing.T) {
	wantSpoilt(t, []spoilt{
		{"an Ending one with no hold", func(b *impl.Book) { b.Objects[1].Holds = nil }, []int{2}},
		{"an Ending one with the empty list of holds", func(b *impl.Book) { b.Objects[1].Holds = []string{} }, []int{2}},
		{"one with a hold that is not Ending", func(b *impl.Book) { b.Objects[1].Ending = false }, nil},
		{"two with one Version", func(b *impl.Book) { b.Objects[0].Version = 10 }, []int{2}},
		{"two with one Version, far from each other", func(b *impl.Book) { b.Objects = append([]impl.BookObject{thing("a", "a", 10, 1)}, b.Objects...) }, []int{2}},
		{"two with one Born", func(b *impl.Book) { b.Objects[1].Born = 1 }, nil},
		{"Version 0", func(b *impl.Book) { b.Objects[0].Version, b.Objects[0].Born = 0, 0 }, []int{2}},
		{"Version below 0", func(b *impl.Book) { b.Objects[0].Version, b.Objects[0].Born = -1, -1 }, []int{2}},
		{"Version above Now", func(b *impl.Book) { b.Objects[0].Version = 19 }, []int{2, 3}},
		{"Born 0", func(b *impl.Book) { b.Objects[0].Born = 0 }, []int{2}},
		{"Born is Version", func(b *impl.Book) { b.Objects[0].Born = 3 }, nil},
		{"Born above Version", func(b *impl.Book) { b.Objects[0].Born = 4 }, []int{2}},
		{"names out of order", func(b *impl.Book) { b.Objects[0].Name, b.Objects[1].Name = "b", "a" }, []int{2}},
		{"the same name twice", func(b *impl.Book) { b.Objects[0].Name = "b" }, []int{2}},
		{"kinds out of order", func(b *impl.Book) { b.Objects[0].Kind = "e" }, []int{2}},
		{"the kind decides, not the name", func(b *impl.Book) { b.Objects[0].Kind, b.Objects[0].Name = "c", "z" }, nil},
		{"the last two out of order", func(b *impl.Book) { b.Objects[2], b.Objects[3] = b.Objects[3], b.Objects[2] }, []int{2}},
		{"holds out of order", func(b *impl.Book) { b.Objects[0].Holds = []string{"b", "a"} }, []int{2}},
		{"a hold twice", func(b *impl.Book) { b.Objects[0].Holds = []string{"a", "a"} }, []int{2}},
		{"the last hold no name", func(b *impl.Book) { b.Objects[0].Holds = []string{"a", "a_"} }, []int{2}},
		{"an empty hold", func(b *impl.Book) { b.Objects[0].Holds = []string{""} }, []int{2}},
		{"5 holds", func(b *impl.Book) { b.Objects[0].Holds = []string{"-", ".", "0", "a", "aa"} }, nil},
		{"6 holds", func(b *impl.Book) { b.Objects[0].Holds = []string{"-", ".", "0", "a", "aa", "b"} }, []int{2}},
		{"a text of 300 bytes", func(b *impl.Book) { b.Objects[0].Text = strings.Repeat("\xff", 300) }, nil},
		{"a text of 301 bytes", func(b *impl.Book) { b.Objects[0].Text = strings.Repeat("x", 301) }, []int{2}},
		{"151 runes, but 302 bytes", func(b *impl.Book) { b.Objects[0].Text = strings.Repeat("\u00e9", 151) }, []int{2}},
	})
}

func TestPoint2ByteOrder(t *testing.T) {
	names := []string{"-", ".", ".a", "0", "9", "9-", "a", "a-", "a.", "a0", "aa", "z", "zz"}
	for i, low := range names {
		for j, high := range names {
			points := []int{2}
			if i < j {
				points = nil
			}
			wantPoints(t, "names "+low+" "+high, resting(2, thing("k", low, 1, 1), thing("k", high, 2, 2)), points...)
			wantPoints(t, "holds "+low+" "+high, resting(1, thing("k", "n", 1, 1, low, high)), points...)
			if i != j {
				wantPoints(t, "kinds "+low+" "+high, resting(2, thing(low, "n", 1, 1), thing(high, "n", 2, 2)), points...)
			}
		}
	}
	wantPoints(t, "kind and name are not one text", resting(2, thing("a", "bz", 1, 1), thing("ab", "a", 2, 2)))
	wantPoints(t, "kind and name are not one text, turned", resting(2, thing("ab", "a", 1, 1), thing("a", "bz", 2, 2)), 2)
	wantPoints(t, "one text, but two objects", resting(2, thing("a", "bc", 1, 1), thing("ab", "c", 2, 2)))
}

func TestPoint2HowMany(t *testing.T) {
	var objects []impl.BookObject
	for i := 1; i <= 101; i++ {
		objects = append(objects, thing("k", fmt.Sprintf("n%03d", i), i, i))
	}
	wantPoints(t, "100 objects", resting(101, objects[:100]...))
	wantPoints(t, "101 objects", resting(101, objects...), 2)
}

// nameBooks puts a text where a name is asked for, one place a book, with the point that is broken if it is none.
func nameBooks(name string) map[string]struct {
	book  impl.Book
	point int
} {
	type row = struct {
		book  impl.Book
		point int
	}
	made := thing("k", "n", 2, 2, name)
	gonePair := func(o impl.BookObject) impl.Book {
		return impl.Book{Now: 2, Floor: 1, History: []impl.BookChange{gone(o)}}
	}
	return map[string]row{
		"kind of an object": {resting(1, thing(name, "n", 1, 1)), 2},
		"name of an object": {resting(1, thing("k", name, 1, 1)), 2},
		"hold of an object": {resting(1, thing("k", "n", 1, 1, name)), 2},
		"kind of a change":  {gonePair(thing(name, "n", 2, 1)), 3},
		"name of a change":  {gonePair(thing("k", name, 2, 1)), 3},
		"hold of a change":  {impl.Book{Now: 3, Floor: 1, Objects: []impl.BookObject{thing("k", "n", 3, 2)}, History: []impl.BookChange{told(made), told(thing("k", "n", 3, 2))}}, 3},
		"client":            {impl.Book{Tickets: []impl.BookTicket{ticket(name)}}, 4},
	}
}

func wantName(t *testing.T, name string, is bool) {
	t.Helper()
	for where, row := range nameBooks(name) {
		var points []int
		if !is {
			points = []int{row.point}
		}
		wantPoints(t, fmt.Sprintf("%s %q", where, name), row.book, points...)
	}
}

func TestNames(t *testing.T) {
	for c := range 256 {
		is := strings.IndexByte("abcdefghijklmnopqrstuvwxyz0123456789-.", byte(c)) >= 0
		for _, form := range []string{"%s", "a%s", "%sa", "a%sa"} {
			wantName(t, strings.Replace(form, "%s", string([]byte{byte(c)}), 1), is)
		}
	}
	wantName(t, "", false)
	wantName(t, strings.Repeat("z", 20), true)
	wantName(t, strings.Repeat("z", 21), false)
	wantName(t, strings.Repeat("\u00e9", 5), false)
	wantName(t, "a\n", false)
}

func TestPoint3Versions(t *testing.T) {
	wantSpoilt(t, []spoilt{
		{"a version left out at the end", func(b *impl.Book) { b.Now = 19 }, []int{3}},
		{"a version left out at the beginning", func(b *impl.Book) { b.Floor = 9 }, []int{3}},
		{"a version left out in the middle", func(b *impl.Book) { b.History = append(b.History[:2], b.History[3:]...) }, []int{3}},
		{"one too many in front", func(b *impl.Book) { b.Floor = 11; b.History[2].Object.Born = 11 }, []int{3}},
		{"no history", func(b *impl.Book) { b.History = nil }, []int{3}},
		{"two changes turned around", func(b *impl.Book) { b.History[1], b.History[4] = b.History[4], b.History[1] }, []int{3}},
		{"the same change twice", func(b *impl.Book) { b.History[1] = b.History[4] }, []int{3}},
		{"an object with the version before", func(b *impl.Book) { b.History[2].Object.Version = 12 }, []int{3}},
		{"a change with another version than its object", func(b *impl.Book) { b.History[2].Version = 12 }, []int{3}},
		{"change and object with another version", func(b *impl.Book) { b.History[2] = told(thing("job", "a", 12, 11, "h")) }, []int{3}},
	})
}

func TestPoint3ObjectsOfChanges(t *testing.T) {
	wantSpoilt(t, []spoilt{
		{"a text of 300 bytes", func(b *impl.Book) { b.History[0].Object.Text = strings.Repeat("x", 300) }, nil},
		{"a text of 301 bytes", func(b *impl.Book) { b.History[0].Object.Text = strings.Repeat("x", 301) }, []int{3}},
		{"a gone one with a text of 300 bytes", func(b *impl.Book) { b.History[5].Object.Text = strings.Repeat("x", 300) }, nil},
		{"a gone one with a text of 301 bytes", func(b *impl.Book) { b.History[5].Object.Text = strings.Repeat("x", 301) }, []int{3}},
		{"5 holds", func(b *impl.Book) { b.History[2].Object.Holds = []string{"1", "2", "3", "4", "5"} }, nil},
		{"6 holds", func(b *impl.Book) { b.History[2].Object.Holds = []string{"1", "2", "3", "4", "5", "6"} }, []int{3}},
		{"holds out of order", func(b *impl.Book) { b.History[2].Object.Holds = []string{"2", "1"} }, []int{3}},
		{"a hold twice", func(b *impl.Book) { b.History[2].Object.Holds = []string{"1", "1"} }, []int{3}},
		{"Ending with no hold, but not Gone", func(b *impl.Book) { b.History[3].Object.Holds = nil }, []int{3}},
		{"a kind that is none", func(b *impl.Book) { b.History[1].Object.Kind, b.History[6].Object.Kind = "J", "J" }, []int{3}},
		{"Born 0", func(b *impl.Book) { b.History[1].Object.Born, b.History[6].Object.Born = 0, 0 }, []int{3}},
		{"Born above Version", func(b *impl.Book) { b.History[0].Object.Born = 12 }, []int{3}},
		{"an earlier text does not matter", func(b *impl.Book) { b.History[2].Object.Text = "other" }, nil},
	})
}

func TestPoint3Gone(t *testing.T) {
	wantSpoilt(t, []spoilt{
		{"Gone but not Ending", func(b *impl.Book) { b.History[6].Object.Ending = false }, []int{3}},
		{"Gone with a hold", func(b *impl.Book) { b.History[6].Object.Holds = []string{"h"} }, []int{3}},
		{"Gone with the empty list of holds", func(b *impl.Book) { b.History[6].Object.Holds = []string{} }, nil},
		{"Gone in the version of its birth", func(b *impl.Book) { b.History[6].Object.Born = 17 }, []int{3}},
		{"Gone before its birth", func(b *impl.Book) { b.History[6].Object.Born = 18 }, []int{3}},
		{"not Gone though it goes with no hold", func(b *impl.Book) { b.History[6].Gone = false }, []int{3}},
	})
	wantPoints(t, "gone one version behind its birth", impl.Book{Now: 2, Floor: 1, History: []impl.BookChange{gone(thing("k", "n", 2, 1))}})
	wantPoints(t, "gone at its birth", impl.Book{Now: 2, Floor: 1, History: []impl.BookChange{gone(thing("k", "n", 2, 2))}}, 3)
	wantPoints(t, "gone at its birth, nothing forgotten", impl.Book{Now: 1, History: []impl.BookChange{gone(thing("k", "n", 1, 1))}}, 3)
}

// lives is a book of just these changes behind Floor 5, all of kind k, with the objects that their last ones leave.
func lives(changes ...impl.BookChange) impl.Book {
	b := impl.Book{Now: 5 + len(changes), Floor: 5, History: changes}
	last := map[string]impl.BookChange{}
	for _, c := range changes {
		last[c.Object.Name] = c
	}
	for _, name := range []string{"m", "n", "o"} {
		if c, ok := last[name]; ok && !c.Gone {
			b.Objects = append(b.Objects, c.Object)
		}
	}
	return b
}

func TestPoint3Lives(t *testing.T) {
	n := func(version, born int) impl.BookObject { return thing("k", "n", version, born) }
	other := told(thing("k", "m", 7, 2))
	sixth := told(thing("k", "m", 6, 2)) // behind it a Born of 6 is above Floor, and no creation
	for _, c := range []struct {
		what   string
		book   impl.Book
		points []int
	}{
		{"first a creation", lives(told(n(6, 6))), nil},
		{"first one born at Floor", lives(told(n(6, 5))), nil},
		{"first one born at 1", lives(told(n(6, 1))), nil},
		{"first one gone, born at Floor", lives(gone(n(6, 5))), nil},
		{"first no creation, born above Floor", lives(sixth, told(n(7, 6))), []int{3}},
		{"first gone, born above Floor", lives(sixth, gone(n(7, 6))), []int{3}},
		{"made and changed", lives(told(n(6, 6)), told(n(7, 6))), nil},
		{"made and gone", lives(told(n(6, 6)), gone(n(7, 6))), nil},
		{"made, another one, changed", lives(told(n(6, 6)), other, told(n(8, 6))), nil},
		{"gone and made again", lives(gone(n(6, 3)), told(n(7, 7))), nil},
		{"gone, another one, made again", lives(gone(n(6, 3)), other, told(n(8, 8))), nil},
		{"made, gone, made, gone, made", lives(told(n(6, 6)), gone(n(7, 6)), told(n(8, 8)), gone(n(9, 8)), told(n(10, 10))), nil},
		{"made though it is there", lives(told(n(6, 6)), told(n(7, 7))), []int{3}},
		{"made though it is there, another one between", lives(told(n(6, 4)), other, told(n(8, 8))), []int{3}},
		{"changed though it is gone, its old Born", lives(gone(n(6, 3)), told(n(7, 3))), []int{3}},
		{"changed though it is gone, another Born", lives(gone(n(6, 3)), told(n(7, 6))), []int{3}},
		{"changed though it is gone, another one between", lives(gone(n(6, 3)), other, told(n(8, 3))), []int{3}},
		{"gone twice", lives(gone(n(6, 3)), gone(n(7, 3))), []int{3}},
		{"gone twice, another one between", lives(gone(n(6, 3)), other, gone(n(8, 3))), []int{3}},
		{"another Born", lives(told(n(6, 4)), told(n(7, 3))), []int{3}},
		{"another Born, above Floor", lives(told(n(6, 4)), told(n(7, 6))), []int{3}},
		{"another Born at the third change", lives(told(n(6, 6)), told(n(7, 6)), told(n(8, 7))), []int{3}},
		{"gone with another Born", lives(told(n(6, 4)), gone(n(7, 3))), []int{3}},
		{"gone with another Born, another one between", lives(told(n(6, 6)), other, gone(n(8, 4))), []int{3}},
		{"gone in the second life with the Born of the first", lives(told(n(6, 6)), gone(n(7, 6)), told(n(8, 8)), gone(n(9, 6))), []int{3}},
	} {
		wantPoints(t, c.what, c.book, c.points...)
	}
	two := impl.Book{Now: 2, Objects: []impl.BookObject{thing("k", "n", 1, 1), thing("l", "n", 2, 2)}, History: []impl.BookChange{told(thing("k", "n", 1, 1)), told(thing("l", "n", 2, 2))}}
	wantPoints(t, "one name of two kinds", two)
	one := impl.Book{Now: 2, Objects: []impl.BookObject{thing("a", "bc", 1, 1), thing("ab", "c", 2, 2)}, History: []impl.BookChange{told(thing("a", "bc", 1, 1)), told(thing("ab", "c", 2, 2))}}
	wantPoints(t, "kind and name together one text", one)
}

func TestPoint3ObjectsAboveFloor(t *testing.T) {
	add := func(b *impl.Book, place int, o impl.BookObject) {
		b.Objects = append(b.Objects[:place:place], append([]impl.BookObject{o}, b.Objects[place:]...)...)
	}
	wantSpoilt(t, []spoilt{
		{"another text", func(b *impl.Book) { b.Objects[2].Text = "other" }, []int{3}},
		{"another Born", func(b *impl.Book) { b.Objects[2].Born = 11 }, []int{3}},
		{"another version", func(b *impl.Book) { b.Objects[2].Version, b.Objects[2].Born = 17, 17 }, []int{3}},
		{"Ending", func(b *impl.Book) { b.Objects[2].Ending = true }, []int{3}},
		{"no holds", func(b *impl.Book) { b.Objects[2].Holds = nil }, []int{3}},
		{"a hold less", func(b *impl.Book) { b.Objects[2].Holds = []string{"x"} }, []int{3}},
		{"a hold more", func(b *impl.Book) { b.Objects[2].Holds = []string{"x", "y", "z"} }, []int{3}},
		{"another hold", func(b *impl.Book) { b.Objects[2].Holds = []string{"x", "z"} }, []int{3}},
		{"two holds run together", func(b *impl.Book) { b.Objects[2].Holds = []string{"xy"} }, []int{3}},
		{"another name", func(b *impl.Book) { b.Objects[3].Name = "d" }, []int{3}},
		{"another kind", func(b *impl.Book) { b.Objects[3].Kind = "jobs" }, []int{3}},
		{"no holds and the empty list of them", func(b *impl.Book) { b.Objects[3].Holds = []string{} }, nil},
		{"the object of a change that is not the last", func(b *impl.Book) { b.Objects[2] = thing("job", "a", 13, 11, "h") }, []int{3}},
		{"missing, the last one", func(b *impl.Book) { b.Objects = b.Objects[:3] }, []int{3}},
		{"missing, one in the middle", func(b *impl.Book) { b.Objects = append(b.Objects[:2:2], b.Objects[3]) }, []int{3}},
		{"all missing", func(b *impl.Book) { b.Objects = nil }, []int{3}},
		{"there though it is gone, as it was", func(b *impl.Book) { add(b, 3, thing("job", "b", 12, 4)) }, []int{3}},
		{"there though it is gone, with a hold", func(b *impl.Book) { add(b, 3, ending(thing("job", "b", 17, 4, "h"))) }, []int{3}},
		{"there though it has no change", func(b *impl.Book) { add(b, 4, thing("job", "d", 13, 13)) }, []int{3}},
		{"there though it has no change, at Floor + 1", func(b *impl.Book) { b.Objects[0].Version = 11 }, []int{3}},
		{"there with no change at Floor", func(b *impl.Book) { b.Objects[1].Version = 9; b.Objects[1].Born = 9; b.Objects[0].Version = 10 }, nil},
		{"at most Floor, but it has changes", func(b *impl.Book) { b.Objects[2] = thing("job", "a", 9, 9, "x", "y") }, []int{3}},
		{"at Floor, but it has changes", func(b *impl.Book) {
			b.Objects[1].Version = 9
			b.Objects[1].Born = 9
			b.Objects[3] = thing("job", "c", 10, 10)
		}, []int{3}},
		{"at most Floor, but it is gone", func(b *impl.Book) { add(b, 3, thing("job", "b", 4, 4)) }, []int{3}},
	})
	goneNow := impl.Book{Now: 2, Objects: []impl.BookObject{ending(thing("k", "n", 2, 1))}, History: []impl.BookChange{told(thing("k", "n", 1, 1)), gone(thing("k", "n", 2, 1))}}
	wantPoints(t, "there just as it went", goneNow, 2, 3)
}

// longStory is a book of one object that was made and then changed, so many changes in all, up to Now.
func longStory(changes, now int) impl.Book {
	b := impl.Book{Now: now, Floor: now - changes}
	born := b.Floor + 1
	for v := born; v <= now; v++ {
		b.History = append(b.History, told(thing("k", "n", v, born)))
	}
	b.Objects = []impl.BookObject{thing("k", "n", now, born)}
	return b
}

func TestPoint3HowMany(t *testing.T) {
	wantPoints(t, "200 changes", longStory(200, 200))
	wantPoints(t, "201 changes", longStory(201, 201), 3)
	wantPoints(t, "200 changes, some forgotten", longStory(200, 333))
	wantPoints(t, "201 changes, some forgotten", longStory(201, 333), 3)
	wantPoints(t, "200 changes up to the last version", longStory(200, 1000000))
	wantPoints(t, "200 changes behind the last version", longStory(200, 1000001), 1)
}

func TestPoint4Tickets(t *testing.T) {
	wantSpoilt(t, []spoilt{
		{"none", func(b *impl.Book) { b.Tickets = nil }, nil},
		{"out of order", func(b *impl.Book) { b.Tickets[0], b.Tickets[1] = b.Tickets[1], b.Tickets[0] }, []int{4}},
		{"a client twice", func(b *impl.Book) { b.Tickets[1].Client = "ann"; b.Tickets[1].Number = 2 }, []int{4}},
		{"the shorter client first", func(b *impl.Book) { b.Tickets[1].Client = "ann-" }, nil},
		{"the longer client first", func(b *impl.Book) { b.Tickets[0].Client = "bob-" }, []int{4}},
		{"no client", func(b *impl.Book) { b.Tickets[0].Client = "" }, []int{4}},
		{"the last client no name", func(b *impl.Book) { b.Tickets[1].Client = "b b" }, []int{4}},
		{"Number 0", func(b *impl.Book) { b.Tickets[0].Number = 0 }, []int{4}},
		{"Number below 0", func(b *impl.Book) { b.Tickets[1].Number = -1 }, []int{4}},
		{"the greatest Number", func(b *impl.Book) { b.Tickets[0].Number = 1000000 }, nil},
		{"a greater Number", func(b *impl.Book) { b.Tickets[0].Number = 1000001 }, []int{4}},
		{"no Print", func(b *impl.Book) { b.Tickets[0].Print = "" }, []int{4}},
		{"a Print of 7 bytes", func(b *impl.Book) { b.Tickets[0].Print = "1234567" }, []int{4}},
		{"a Print of 9 bytes", func(b *impl.Book) { b.Tickets[0].Print = "123456789" }, []int{4}},
		{"a Print of 8 runes, but 9 bytes", func(b *impl.Book) { b.Tickets[0].Print = "1234567\u00e9" }, []int{4}},
		{"a Print of 8 bytes, but 4 runes", func(b *impl.Book) { b.Tickets[0].Print = "\u00e9\u00e9\u00e9\u00e9" }, nil},
		{"Code 9", func(b *impl.Book) { b.Tickets[1].Code = 9 }, nil},
		{"Code 10", func(b *impl.Book) { b.Tickets[1].Code = 10 }, []int{4}},
		{"Code below 0", func(b *impl.Book) { b.Tickets[1].Code = -1 }, []int{4}},
		{"Version Now", func(b *impl.Book) { b.Tickets[1].Version = 18 }, nil},
		{"Version above Now", func(b *impl.Book) { b.Tickets[1].Version = 19 }, []int{4}},
		{"Version below 0", func(b *impl.Book) { b.Tickets[1].Version = -1 }, []int{4}},
	})
}

func TestPoint4HowMany(t *testing.T) {
	var tickets []impl.BookTicket
	for i := range 51 {
		tickets = append(tickets, ticket(fmt.Sprintf("c%02d", i)))
	}
	wantPoints(t, "50 tickets", impl.Book{Tickets: tickets[:50]})
	wantPoints(t, "51 tickets", impl.Book{Tickets: tickets}, 4)
}

func TestLimitsAreTheDocuments(t *testing.T) {
	got := []int{impl.BookMaxName, impl.BookMaxText, impl.BookMaxObjects, impl.BookMaxHolds, impl.BookMaxHistory, impl.BookMaxVersion, impl.BookMaxTickets, impl.BookMaxNumber}
	if want := []int{20, 300, 100, 5, 200, 1000000, 50, 1000000}; !reflect.DeepEqual(got, want) {
		t.Errorf("limits %v, want %v", got, want)
	}
}

func wantFound(t *testing.T, b impl.Book, kind, name string, want impl.BookObject) {
	t.Helper()
	before := copyBook(b)
	got, ok := impl.BookFind(b, kind, name)
	if !ok || !sameObject(got, want) {
		t.Errorf("%q %q: %+v %v, want %+v", kind, name, got, ok, want)
	}
	if !reflect.DeepEqual(before, b) {
		t.Errorf("%q %q: BookFind wrote into its argument", kind, name)
	}
}

func wantMissing(t *testing.T, b impl.Book, kind, name string) {
	t.Helper()
	if got, ok := impl.BookFind(b, kind, name); ok || !sameObject(got, impl.BookObject{}) {
		t.Errorf("%q %q: %+v %v, want nothing and false", kind, name, got, ok)
	}
}

func TestFind(t *testing.T) {
	b := shelf()
	for _, o := range b.Objects {
		wantFound(t, b, o.Kind, o.Name, o)
	}
	for _, key := range [][2]string{{"job", "b"}, {"disk", "c"}, {"disks", "a"}, {"", ""}, {"disk", ""}, {"", "a"}, {"a", "disk"}, {"dis", "ka"}, {"Disk", "a"}, {"disk", "a "}} {
		wantMissing(t, b, key[0], key[1])
	}
	wantMissing(t, impl.Book{}, "k", "n")
	wantMissing(t, impl.Book{}, "", "")
}

func TestFindInBooksThatAreNotValid(t *testing.T) {
	first := thing("k", "n", -1, 9, "z", "a")
	b := impl.Book{Now: -5, Floor: 3, Objects: []impl.BookObject{
		thing("z", "z", 1, 1), first, thing("k", "n", 2, 1), thing("", "", 7, 7), thing("a b", "\xff\n", 0, 0), thing("a", "bc", 1, 1), thing("ab", "c", 2, 2), thing("k", "n", 3, 1), {},
	}}
	if impl.BookValid(b) {
		t.Fatal("the test's book is valid")
	}
	wantFound(t, b, "k", "n", first)
	wantFound(t, b, "", "", thing("", "", 7, 7))
	wantFound(t, b, "a b", "\xff\n", thing("a b", "\xff\n", 0, 0))
	wantFound(t, b, "a", "bc", thing("a", "bc", 1, 1))
	wantFound(t, b, "ab", "c", thing("ab", "c", 2, 2))
	wantMissing(t, b, "abc", "")
	wantMissing(t, b, "", "abc")
	wantMissing(t, impl.Book{History: []impl.BookChange{told(thing("k", "n", 1, 1))}}, "k", "n")
	many := impl.Book{}
	for i := range 500 {
		many.Objects = append(many.Objects, thing("k", fmt.Sprint("n", i/2), i, i))
	}
	wantFound(t, many, "k", "n249", thing("k", "n249", 498, 498))
}

func TestFindSharesNoMemory(t *testing.T) {
	room := []string{"a", "b", "behind"}
	b := impl.Book{Now: 1, Floor: 1, Objects: []impl.BookObject{thing("k", "n", 1, 1, room[:2]...)}}
	one, _ := impl.BookFind(b, "k", "n")
	two, _ := impl.BookFind(b, "k", "n")
	one.Holds[0] = "written"
	one.Holds = append(one.Holds, "put", "and more")
	if !reflect.DeepEqual(room, []string{"a", "b", "behind"}) || !reflect.DeepEqual(two.Holds, []string{"a", "b"}) {
		t.Errorf("an answer was written, and the argument is %v, another answer %v", room, two.Holds)
	}
	room[0], room[1] = "c", "d"
	if !reflect.DeepEqual(two.Holds, []string{"a", "b"}) {
		t.Errorf("the argument was written, and the answer is %v", two.Holds)
	}
	empty := []string{"behind"}
	b.Objects[0].Holds = empty[:0]
	three, _ := impl.BookFind(b, "k", "n")
	three.Holds = append(three.Holds, "put")
	if empty[0] != "behind" {
		t.Errorf("an answer was written, and behind the argument's end is %q", empty[0])
	}
}
