package tests

import (
	"reflect"
	"regexp"
	"slices"
	"testing"

	"loop.example/wharflog/impl"
)

// This file says once more, in the document's order and with plain loops, what a valid book is.
// Its numbers are the document's own and not the program's constants.

var nameForm = regexp.MustCompile(`\A[a-z0-9.-]{1,20}\z`)

// brokenPoints tells which of the four points of "A book is valid if" a book breaks; each point is looked at whatever the others say.
func brokenPoints(b impl.Book) []int {
	var broken []int
	for i, keeps := range []func(impl.Book) bool{keepsPoint1, keepsPoint2, keepsPoint3, keepsPoint4} {
		if !keeps(b) {
			broken = append(broken, i+1)
		}
	}
	return broken
}

func keepsPoint1(b impl.Book) bool {
	return b.Now >= 0 && b.Now <= 1000000 && b.Floor >= 0 && b.Floor <= b.Now
}

func keepsPoint2(b impl.Book) bool {
	if len(b.Objects) > 100 {
		return false
	}
	for i, o := range b.Objects {
		if !soundObject(o, b.Now) || o.Ending && len(o.Holds) == 0 {
			return false
		}
		for _, p := range b.Objects[:i] {
			if p.Kind > o.Kind || p.Kind == o.Kind && p.Name >= o.Name || p.Version == o.Version {
				return false
			}
		}
	}
	return true
}

func soundObject(o impl.BookObject, now int) bool {
	if !nameForm.MatchString(o.Kind) || !nameForm.MatchString(o.Name) {
		return false
	}
	if o.Version < 1 || o.Version > now || o.Born < 1 || o.Born > o.Version || len(o.Text) > 300 || len(o.Holds) > 5 {
		return false
	}
	for i, h := range o.Holds {
		if !nameForm.MatchString(h) || i > 0 && o.Holds[i-1] >= h {
			return false
		}
	}
	return true
}

func keepsPoint3(b impl.Book) bool {
	return keepsVersions(b) && keepsLives(b) && keepsLast(b)
}

func keepsVersions(b impl.Book) bool {
	if len(b.History) != max(0, b.Now-b.Floor) || len(b.History) > 200 {
		return false
	}
	for i, c := range b.History {
		o := c.Object
		if c.Version != b.Floor+i+1 || o.Version != c.Version || !soundObject(o, b.Now) {
			return false
		}
		if c.Gone && (!o.Ending || len(o.Holds) > 0 || o.Born >= o.Version) || !c.Gone && o.Ending && len(o.Holds) == 0 {
			return false
		}
	}
	return true
}

// neighbour is the nearest change of the same kind and name, ahead of a place (step -1) or behind it (step 1); -1 if there is none.
func neighbour(history []impl.BookChange, place, step int) int {
	for i := place + step; i >= 0 && i < len(history); i += step {
		if history[i].Object.Kind == history[place].Object.Kind && history[i].Object.Name == history[place].Object.Name {
			return i
		}
	}
	return -1
}

func keepsLives(b impl.Book) bool {
	for i, c := range b.History {
		creation := !c.Gone && c.Object.Born == c.Object.Version
		before := neighbour(b.History, i, -1)
		if before < 0 {
			if !creation && c.Object.Born > b.Floor {
				return false
			}
			continue
		}
		if creation != b.History[before].Gone {
			return false
		}
		if !creation && c.Object.Born != b.History[before].Object.Born {
			return false
		}
	}
	return true
}

func keepsLast(b impl.Book) bool {
	var told, there []impl.BookObject
	for i, c := range b.History {
		if neighbour(b.History, i, 1) < 0 && !c.Gone {
			told = append(told, c.Object)
		}
	}
	for _, o := range b.Objects {
		if o.Version > b.Floor {
			there = append(there, o)
			continue
		}
		for _, c := range b.History {
			if c.Object.Kind == o.Kind && c.Object.Name == o.Name {
				return false
			}
		}
	}
	return subset(told, there) && subset(there, told)
}

func subset(some, all []impl.BookObject) bool {
	for _, o := range some {
		if !slices.ContainsFunc(all, func(p impl.BookObject) bool { return sameObject(o, p) }) {
			return false
		}
	}
	return true
}

func sameObject(o, p impl.BookObject) bool {
	same := slices.Equal(o.Holds, p.Holds)
	o.Holds, p.Holds = nil, nil
	return same && reflect.DeepEqual(o, p)
}

func keepsPoint4(b impl.Book) bool {
	if len(b.Tickets) > 50 {
		return false
	}
	for i, t := range b.Tickets {
		if !nameForm.MatchString(t.Client) || i > 0 && b.Tickets[i-1].Client >= t.Client {
			return false
		}
		if t.Number < 1 || t.Number > 1000000 || len(t.Print) != 8 || t.Code < 0 || t.Code > 9 || t.Version < 0 || t.Version > b.Now {
			return false
		}
	}
	return true
}

// copyBook shares no memory with its argument.
func copyBook(b impl.Book) impl.Book {
	b.Objects = slices.Clone(b.Objects)
	b.History = slices.Clone(b.History)
	b.Tickets = slices.Clone(b.Tickets)
	for i := range b.Objects {
		b.Objects[i].Holds = slices.Clone(b.Objects[i].Holds)
	}
	for i := range b.History {
		b.History[i].Object.Holds = slices.Clone(b.History[i].Object.Holds)
	}
	return b
}

// wantPoints holds a book against the points that it is to break: none of them for a valid one.
func wantPoints(t *testing.T, what string, b impl.Book, points ...int) {
	t.Helper()
	if got := brokenPoints(b); !slices.Equal(got, points) {
		t.Errorf("%s: the test's book breaks the points %v, and was to break %v", what, got, points)
	}
	before := copyBook(b)
	if got := impl.BookValid(b); got != (len(points) == 0) {
		t.Errorf("%s: BookValid is %v", what, got)
	}
	if !reflect.DeepEqual(before, b) {
		t.Errorf("%s: BookValid wrote into its argument", what)
	}
}
