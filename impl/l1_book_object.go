package impl

import (
	"cmp"
	"slices"
)

// Limits of books.
const (
	BookMaxName    = 20
	BookMaxText    = 300
	BookMaxObjects = 100
	BookMaxHolds   = 5
	BookMaxHistory = 200
	BookMaxVersion = 1000000
	BookMaxTickets = 50
	BookMaxNumber  = 1000000
)

// A ticket's print is a sum of 64 bits; its code is one of a bundle's.
const (
	bookPrintSize = 8
	bookMaxCode   = 9
)

// BookObject is a thing that stands in the book.
type BookObject struct {
	Kind    string
	Name    string
	Version int
	Born    int
	Text    string
	Ending  bool
	Holds   []string
}

// BookChange is a change of an object.
type BookChange struct {
	Version int
	Gone    bool
	Object  BookObject
}

// BookTicket is the last call of a client.
type BookTicket struct {
	Client  string
	Number  int
	Print   string
	Code    int
	Version int
}

// Book is objects, and what became of them.
type Book struct {
	Now     int
	Floor   int
	Objects []BookObject
	History []BookChange
	Tickets []BookTicket
}

// bookKey is what an object is found by.
type bookKey struct {
	kind string
	name string
}

// BookValid says whether a book is valid.
func BookValid(b Book) bool {
	// The order counts: a later check takes for granted what an earlier one has seen to.
	checks := []func(Book) bool{
		bookNumbersFit,
		bookObjectsFit,
		bookVersionsDiffer,
		bookHistoryFits,
		bookLivesFit,
		bookObjectsAgree,
		bookTicketsFit,
	}
	for _, check := range checks {
		if !check(b) {
			return false
		}
	}
	return true
}

// BookFind finds an object.
func BookFind(b Book, kind string, name string) (BookObject, bool) {
	place, found := bookPlaces(b.Objects)[bookKey{kind, name}]
	if !found {
		return BookObject{}, false
	}
	return bookCopyObject(b.Objects[place]), true
}

func bookKeyOf(o BookObject) bookKey {
	return bookKey{o.Kind, o.Name}
}

// bookPlaces tells where each kind and name stands first, as a book that is not valid may have it twice.
func bookPlaces(objects []BookObject) map[bookKey]int {
	places := make(map[bookKey]int, len(objects))
	for i, o := range objects {
		if _, found := places[bookKeyOf(o)]; !found {
			places[bookKeyOf(o)] = i
		}
	}
	return places
}

// bookLastChanges tells where the last change of each kind and name stands.
func bookLastChanges(history []BookChange) map[bookKey]int {
	last := make(map[bookKey]int, len(history))
	for i, c := range history {
		last[bookKeyOf(c.Object)] = i
	}
	return last
}

func bookCopy(b Book) Book {
	b.Objects = bookCopyObjects(b.Objects)
	b.History = bookCopyList(b.History)
	for i, c := range b.History {
		b.History[i] = bookCopyChange(c)
	}
	b.Tickets = bookCopyList(b.Tickets)
	return b
}

func bookCopyObjects(objects []BookObject) []BookObject {
	fresh := bookCopyList(objects)
	for i, o := range fresh {
		fresh[i] = bookCopyObject(o)
	}
	return fresh
}

func bookCopyChange(c BookChange) BookChange {
	c.Object = bookCopyObject(c.Object)
	return c
}

func bookCopyObject(o BookObject) BookObject {
	o.Holds = bookCopyList(o.Holds)
	return o
}

// bookCopyList has no spare room, and is nil for the empty list too, as the two are one value.
func bookCopyList[T any](list []T) []T {
	if len(list) == 0 {
		return nil
	}
	fresh := make([]T, len(list))
	copy(fresh, list)
	return fresh
}

func bookNumbersFit(b Book) bool {
	return bookWithin(b.Now, 0, BookMaxVersion) && bookWithin(b.Floor, 0, b.Now)
}

func bookObjectsFit(b Book) bool {
	if len(b.Objects) > BookMaxObjects || !bookAscends(b.Objects, bookObjectBefore) {
		return false
	}
	for _, o := range b.Objects {
		if !bookObjectFits(o, b.Now) || !bookMayStand(o) {
			return false
		}
	}
	return true
}

func bookVersionsDiffer(b Book) bool {
	seen := make(map[int]struct{}, len(b.Objects))
	for _, o := range b.Objects {
		if _, twice := seen[o.Version]; twice {
			return false
		}
		seen[o.Version] = struct{}{}
	}
	return true
}

func bookHistoryFits(b Book) bool {
	if len(b.History) > BookMaxHistory || len(b.History) != b.Now-b.Floor {
		return false
	}
	for i, c := range b.History {
		if c.Version != b.Floor+1+i || !bookChangeFits(c, b.Now) {
			return false
		}
	}
	return true
}

// bookLivesFit holds each change against the one ahead of it of the same kind and name.
func bookLivesFit(b Book) bool {
	last := make(map[bookKey]int, len(b.History))
	for i, c := range b.History {
		key := bookKeyOf(c.Object)
		before, found := last[key]
		if found && !bookMayFollow(b.History[before], c) {
			return false
		}
		if !found && !bookMayBegin(c, b.Floor) {
			return false
		}
		last[key] = i
	}
	return true
}

// bookObjectsAgree holds objects and last changes against each other, both ways.
func bookObjectsAgree(b Book) bool {
	last := bookLastChanges(b.History)
	for _, o := range b.Objects {
		place, changed := last[bookKeyOf(o)]
		if !changed && o.Version > b.Floor {
			return false
		}
		if changed && (b.History[place].Gone || !bookSameObject(o, b.History[place].Object)) {
			return false
		}
	}
	places := bookPlaces(b.Objects)
	for i, c := range b.History {
		_, there := places[bookKeyOf(c.Object)]
		if last[bookKeyOf(c.Object)] == i && !c.Gone && !there {
			return false
		}
	}
	return true
}

func bookTicketsFit(b Book) bool {
	if len(b.Tickets) > BookMaxTickets || !bookAscends(b.Tickets, bookTicketBefore) {
		return false
	}
	for _, t := range b.Tickets {
		if !bookTicketFits(t, b.Now) {
			return false
		}
	}
	return true
}

// bookObjectFits is what every object is asked for, one that is gone too.
func bookObjectFits(o BookObject, now int) bool {
	return bookIsName(o.Kind) && bookIsName(o.Name) &&
		bookWithin(o.Version, 1, now) && bookWithin(o.Born, 1, o.Version) &&
		len(o.Text) <= BookMaxText && bookHoldsFit(o.Holds)
}

func bookHoldsFit(holds []string) bool {
	if len(holds) > BookMaxHolds || !bookAscends(holds, bookTextBefore) {
		return false
	}
	for _, hold := range holds {
		if !bookIsName(hold) {
			return false
		}
	}
	return true
}

// bookMayStand is false of an object that should have gone: nobody holds it any more.
func bookMayStand(o BookObject) bool {
	return !o.Ending || len(o.Holds) > 0
}

func bookMayBeGone(o BookObject) bool {
	return o.Ending && len(o.Holds) == 0 && o.Born < o.Version
}

func bookChangeFits(c BookChange, now int) bool {
	if c.Object.Version != c.Version || !bookObjectFits(c.Object, now) {
		return false
	}
	if c.Gone {
		return bookMayBeGone(c.Object)
	}
	return bookMayStand(c.Object)
}

func bookIsCreation(c BookChange) bool {
	return !c.Gone && c.Object.Born == c.Version
}

// bookMayBegin says whether a change may be the first of its kind and name: what came ahead of it is forgotten, or there was nothing.
func bookMayBegin(c BookChange, floor int) bool {
	return bookIsCreation(c) || c.Object.Born <= floor
}

func bookMayFollow(before BookChange, c BookChange) bool {
	if before.Gone || bookIsCreation(c) {
		return before.Gone && bookIsCreation(c)
	}
	return before.Object.Born == c.Object.Born
}

func bookSameObject(o BookObject, p BookObject) bool {
	return bookKeyOf(o) == bookKeyOf(p) && o.Version == p.Version && o.Born == p.Born &&
		o.Text == p.Text && o.Ending == p.Ending && slices.Equal(o.Holds, p.Holds)
}

func bookTicketFits(t BookTicket, now int) bool {
	return bookIsName(t.Client) && bookWithin(t.Number, 1, BookMaxNumber) &&
		len(t.Print) == bookPrintSize && bookWithin(t.Code, 0, bookMaxCode) && bookWithin(t.Version, 0, now)
}

func bookIsName(s string) bool {
	if len(s) < 1 || len(s) > BookMaxName {
		return false
	}
	for i := range len(s) {
		if !bookIsNameByte(s[i]) {
			return false
		}
	}
	return true
}

func bookIsNameByte(c byte) bool {
	return 'a' <= c && c <= 'z' || '0' <= c && c <= '9' || c == '-' || c == '.'
}

func bookWithin(n int, least int, most int) bool {
	return least <= n && n <= most
}

// bookAscends is strict: no two that are next to each other may be alike.
func bookAscends[T any](list []T, before func(T, T) bool) bool {
	for i := 1; i < len(list); i++ {
		if !before(list[i-1], list[i]) {
			return false
		}
	}
	return true
}

func bookObjectBefore(o BookObject, p BookObject) bool {
	return bookCompareObjects(o, p) < 0
}

func bookCompareObjects(o BookObject, p BookObject) int {
	return bookCompareKeys(bookKeyOf(o), bookKeyOf(p))
}

func bookCompareKeys(k bookKey, l bookKey) int {
	return cmp.Or(cmp.Compare(k.kind, l.kind), cmp.Compare(k.name, l.name))
}

func bookTicketBefore(t BookTicket, u BookTicket) bool {
	return t.Client < u.Client
}

func bookTextBefore(s string, t string) bool {
	return s < t
}
