package tests

import (
	"math/rand"
	"slices"
	"strings"
	"testing"

	"loop.example/wharflog/impl"
)

// A story is a valid book that grows by writes and forgets; the same seed tells the same one.
type story struct {
	dice *rand.Rand
	book impl.Book
}

func (s *story) pick(texts ...string) string {
	return texts[s.dice.Intn(len(texts))]
}

// step writes one object in a way that the book allows, and at times forgets some changes.
func (s *story) step() {
	kind, name := s.pick("k", "l"), s.pick("a", "a.b", "b", "b-c")
	place, there := slices.BinarySearchFunc(s.book.Objects, thing(kind, name, 0, 0), func(o, p impl.BookObject) int {
		return strings.Compare(o.Kind+" "+o.Name, p.Kind+" "+p.Name)
	})
	next := thing(kind, name, 0, s.book.Now+1)
	if there {
		next = s.book.Objects[place]
		next.Holds = slices.Clone(next.Holds)
		s.write(&next)
	} else if s.dice.Intn(2) == 0 {
		next.Holds = []string{"h1"}
	}
	s.put(place, there, next)
	if s.dice.Intn(6) == 0 {
		forget := s.dice.Intn(len(s.book.History) + 1)
		s.book.Floor += forget
		s.book.History = s.book.History[forget:]
	}
}

func (s *story) write(o *impl.BookObject) {
	hold := s.pick("h0", "h1", "h2")
	at, held := slices.BinarySearch(o.Holds, hold)
	switch {
	case held && s.dice.Intn(2) == 0 || o.Ending:
		at = min(at, len(o.Holds)-1)
		o.Holds = slices.Delete(o.Holds, at, at+1)
	case !held && s.dice.Intn(2) == 0:
		o.Holds = slices.Insert(o.Holds, at, hold)
	case s.dice.Intn(2) == 0:
		o.Ending = true
	default:
		o.Text = s.pick("", "x", "xy")
	}
}

func (s *story) put(place int, there bool, o impl.BookObject) {
	s.book.Now++
	o.Version = s.book.Now
	goes := o.Ending && len(o.Holds) == 0
	s.book.History = append(s.book.History, impl.BookChange{Version: o.Version, Gone: goes, Object: o})
	if there {
		s.book.Objects = slices.Delete(s.book.Objects, place, place+1)
	}
	if !goes {
		s.book.Objects = slices.Insert(s.book.Objects, place, o)
	}
}

// eachStory gives the books of many stories on their way.
func eachStory(t *testing.T, see func(dice *rand.Rand, b impl.Book)) {
	t.Helper()
	for seed := range 200 {
		s := story{dice: rand.New(rand.NewSource(int64(seed)))}
		for range 40 {
			s.step()
			see(s.dice, s.book)
			if t.Failed() {
				t.Fatalf("seed %d: %+v", seed, s.book)
			}
		}
	}
}

func TestStoriesAreValid(t *testing.T) {
	eachStory(t, func(dice *rand.Rand, b impl.Book) {
		wantPoints(t, "a story", b)
		for _, o := range b.Objects {
			wantFound(t, b, o.Kind, o.Name, o)
		}
	})
}

func TestSpoiltStories(t *testing.T) {
	valid, broken := 0, map[int]int{}
	eachStory(t, func(dice *rand.Rand, b impl.Book) {
		for range 10 {
			c := copyBook(b)
			what := ""
			for range 1 + dice.Intn(2) {
				what += spoil(dice, &c) + " "
			}
			points := brokenPoints(c)
			wantPoints(t, what, c, points...)
			if len(points) == 0 {
				valid++
			} else if len(points) == 1 {
				broken[points[0]]++
			}
		}
	})
	if valid < 1000 || broken[1] < 50 || broken[2] < 1000 || broken[3] < 1000 || broken[4] < 1000 {
		t.Errorf("the test is not worth much: valid %d, broken in one point %v", valid, broken)
	}
}

// spoil changes one thing of a book by a little, and says what.
func spoil(dice *rand.Rand, b *impl.Book) string {
	by := dice.Intn(5) - 2
	switch which := dice.Intn(10); {
	case which == 0:
		b.Now += by
		return "Now"
	case which == 1:
		b.Floor += by
		return "Floor"
	case which == 2 && len(b.Objects) > 0:
		at := dice.Intn(len(b.Objects))
		b.Objects = slices.Delete(b.Objects, at, at+1)
		return "an object less"
	case which == 3 && len(b.History) > 0:
		c := b.History[dice.Intn(len(b.History))]
		c.Object.Holds = slices.Clone(c.Object.Holds)
		b.Objects = append(b.Objects, c.Object)
		slices.SortStableFunc(b.Objects, func(o, p impl.BookObject) int { return strings.Compare(o.Kind+" "+o.Name, p.Kind+" "+p.Name) })
		return "an object more"
	case which == 4:
		b.Tickets = append(b.Tickets, ticket([]string{"a", "b", "B"}[dice.Intn(3)]))
		last := &b.Tickets[len(b.Tickets)-1]
		last.Number += by
		last.Version += b.Now + by
		return "a ticket more"
	case which <= 6 && len(b.Objects) > 0:
		return "an object's " + spoilObject(dice, &b.Objects[dice.Intn(len(b.Objects))], by)
	case len(b.History) > 0:
		return "a change's " + spoilChange(dice, b, by)
	}
	return "nothing"
}

func spoilChange(dice *rand.Rand, b *impl.Book, by int) string {
	at := dice.Intn(len(b.History))
	c := &b.History[at]
	switch dice.Intn(8) {
	case 0:
		c.Gone = !c.Gone
		return "Gone"
	case 1:
		c.Version += by
		return "Version"
	case 2:
		b.History = slices.Delete(b.History, at, at+1)
		return "place"
	case 3:
		c.Object.Ending, c.Object.Holds, c.Gone = true, nil, true
		return "end"
	}
	return "object's " + spoilObject(dice, &c.Object, by)
}

func spoilObject(dice *rand.Rand, o *impl.BookObject, by int) string {
	switch dice.Intn(7) {
	case 0:
		o.Version += by
		return "Version"
	case 1:
		o.Born += by
		return "Born"
	case 2:
		o.Ending = !o.Ending
		return "Ending"
	case 3:
		o.Holds = [][]string{nil, {"h1"}, {"h1", "h1"}, {"h1", "h2"}, {"h2", "h1"}}[dice.Intn(5)]
		return "Holds"
	case 4:
		o.Text = []string{"", "x", strings.Repeat("x", 300), strings.Repeat("x", 301)}[dice.Intn(4)]
		return "Text"
	case 5:
		o.Name = []string{"", "a", "a.b", "b", "b_c"}[dice.Intn(5)]
		return "Name"
	}
	o.Kind = []string{"k", "l", "L"}[dice.Intn(3)]
	return "Kind"
}

// Promise 4, as far as a book shows it: whatever breaks it in a valid book makes it one that is not valid.
func TestPromise4Versions(t *testing.T) {
	refused := map[string]int{}
	refuse := func(b impl.Book, what string, change func(b *impl.Book)) {
		t.Helper()
		c := copyBook(b)
		change(&c)
		refused[what]++
		if impl.BookValid(c) {
			t.Errorf("%s: valid: %+v", what, c)
		}
	}
	eachStory(t, func(dice *rand.Rand, b impl.Book) {
		for i, o := range b.Objects {
			for j := range i {
				refuse(b, "two objects with one Version", func(c *impl.Book) { c.Objects[j].Version = o.Version })
			}
			if o.Ending {
				refuse(b, "Ending with no hold", func(c *impl.Book) { c.Objects[i].Holds = nil })
			}
		}
		for i, change := range b.History {
			if neighbour(b.History, i, -1) >= 0 && (change.Gone || change.Object.Born != change.Version) {
				refuse(b, "another Born while it is there", func(c *impl.Book) { c.History[i].Object.Born-- })
				refuse(b, "made anew while it is there", func(c *impl.Book) { c.History[i].Object.Born = c.History[i].Version })
			}
			if change.Gone {
				refuse(b, "gone with a hold", func(c *impl.Book) { c.History[i].Object.Holds = []string{"h"} })
				refuse(b, "there with no hold", func(c *impl.Book) { c.History[i].Gone = false })
				refuse(b, "gone and not Ending", func(c *impl.Book) { c.History[i].Object.Ending = false })
			} else if change.Object.Ending {
				refuse(b, "Ending with no hold, told", func(c *impl.Book) { c.History[i].Object.Holds = nil })
			}
		}
	})
	if len(refused) != 8 {
		t.Errorf("the stories tell too little: %v", refused)
	}
}
