package tests

import (
	"fmt"
	"math/rand"
	"strings"
	"testing"

	"loop.example/wharflog/impl"
)

// wantForm holds a valid book against its form, both ways, and looks at the memory of what is read.
func wantForm(t *testing.T, what string, b impl.Book, form string) {
	t.Helper()
	memoryKept(t, what, b, func(given impl.Book) impl.Book {
		if got := impl.BookForm(given); got != form {
			t.Errorf("%s: %+v\ngives %q\nwant  %q", what, b, got, form)
		}
		got, ok := impl.BookRead(form)
		if !ok || !sameBook(got, b) {
			t.Errorf("%s: %q\ngives %v, %+v\nwant  %+v", what, form, ok, got, b)
		}
		return got
	})
}

// wantNoForm wants the empty text.
func wantNoForm(t *testing.T, what string, b impl.Book) {
	t.Helper()
	memoryKept(t, what, b, func(given impl.Book) impl.Book {
		if got := impl.BookForm(given); got != "" {
			t.Errorf("%s: %q", what, got)
		}
		return impl.Book{}
	})
}

func lines(list ...string) string {
	return strings.Join(list, "\n") + "\n"
}

// escapes is a book whose texts have all sorts of bytes, with the form of each object as it is behind BORN.
func escapes() (impl.Book, []string) {
	texts := []string{"", " ", "t", "two words", "\n", "\"", "\\", "\\n", "\"\"", "\x00\x1f !~\x7f\x80\xff", "\u00e9", "-", "a\tb\r", "\\22", "\" h"}
	ends := []string{`- ""`, `- " "`, `- "t"`, `- "two words"`, `- "\0a"`, `- "\22"`, `- "\5c"`, `- "\5cn"`, `- "\22\22"`, `- "\00\1f !~\7f\80\ff"`,
		`- "\c3\a9"`, `- "-"`, `- "a\09b\0d"`, `- "\5c22"`, `- "\22 h"`}
	var objects []impl.BookObject
	for i, text := range texts {
		objects = append(objects, saying(thing("k", fmt.Sprintf("n%02d", i), 1+i, 1+i), text))
	}
	return resting(len(texts), objects...), ends
}

func TestFormsByHand(t *testing.T) {
	wantForm(t, "nothing", impl.Book{}, "book 0 0\n")
	wantForm(t, "empty lists", impl.Book{Objects: []impl.BookObject{}, History: []impl.BookChange{}, Tickets: []impl.BookTicket{}}, "book 0 0\n")
	wantForm(t, "all forgotten", resting(7), "book 7 7\n")
	wantForm(t, "the last version", resting(1000000), "book 1000000 1000000\n")
	wantForm(t, "an object", resting(1, thing("k", "n", 1, 1)), "book 1 1\nobject k n 1 1 - \"\"\n")
	wantForm(t, "a creation", impl.Book{Now: 1, Objects: []impl.BookObject{thing("k", "n", 1, 1)}, History: []impl.BookChange{told(thing("k", "n", 1, 1))}},
		lines("book 1 0", `object k n 1 1 - ""`, `change - k n 1 1 - ""`))
	wantForm(t, "gone", impl.Book{Now: 2, History: []impl.BookChange{told(saying(thing("k", "n", 1, 1), "t")), gone(saying(thing("k", "n", 2, 1), "t"))}},
		lines("book 2 0", `change - k n 1 1 - "t"`, `change gone k n 2 1 ending "t"`))
	wantForm(t, "a name like a word", resting(9, thing("object", "ending", 9, 3, "-", "book", "gone")), lines("book 9 9", `object object ending 9 3 - "" - book gone`))
	wantForm(t, "5 holds", resting(9, saying(ending(thing("-", ".", 9, 3, "-", ".", "0", "a", "aa")), "x")), lines("book 9 9", `object - . 9 3 ending "x" - . 0 a aa`))
	long := strings.Repeat("z", 20)
	wantForm(t, "long names", resting(9, thing(long, long, 9, 3, long)), lines("book 9 9", "object "+long+" "+long+` 9 3 - "" `+long))
	wantForm(t, "tickets", impl.Book{Now: 12, Floor: 12, Tickets: []impl.BookTicket{{Client: "-", Number: 1, Print: "12345678"}, {Client: "ann", Number: 1000000, Print: "\x00\x00\x00\x00\xff\xff\xff\xff", Code: 9, Version: 12}, {Client: "b.b", Number: 10, Print: "a\"b\\c d\n", Code: 4, Version: 10}}},
		lines("book 12 12", `ticket - 1 0 0 "12345678"`, `ticket ann 1000000 9 12 "\00\00\00\00\ff\ff\ff\ff"`, `ticket b.b 10 4 10 "a\22b\5cc d\0a"`))
	b, ends := escapes()
	form := []string{"book 15 15"}
	for i, end := range ends {
		form = append(form, fmt.Sprintf("object k n%02d %d %d %s", i, 1+i, 1+i, end))
	}
	wantForm(t, "texts", b, lines(form...))
	wantForm(t, "all bytes", resting(1, saying(thing("k", "n", 1, 1, "h"), allBytes())), "book 1 1\nobject k n 1 1 - "+plainQuote(allBytes())+" h\n")
}

func TestFormOfTheShelf(t *testing.T) {
	wantForm(t, "shelf", shelf(), shelfForm())
}

func shelfForm() string {
	return lines("book 18 10",
		`object disk a 3 1 - ""`, `object disk b 10 10 ending "" h`, `object job a 18 18 - "" x y`, `object job c 15 15 - ""`,
		`change - job a 11 11 - ""`, `change - job b 12 4 - ""`, `change - job a 13 11 - "" h`, `change - job a 14 11 ending "" h`,
		`change - job c 15 15 - ""`, `change gone job a 16 11 ending ""`, `change gone job b 17 4 ending ""`, `change - job a 18 18 - "" x y`,
		`ticket ann 1 0 0 "\00\ff\22\5c ab\0a"`, `ticket bob 1 0 0 "\00\ff\22\5c ab\0a"`)
}

// sized is a valid book whose form would have so many bytes: texts of old objects and of all changes but the last make it up.
func sized(t *testing.T, size int) impl.Book {
	t.Helper()
	b := longStory(200, 400)
	for i := range 99 {
		b.Objects = append(b.Objects, thing("z", fmt.Sprintf("n%02d", i), 1+i, 1+i))
	}
	var texts []*string
	for i := range 199 {
		texts = append(texts, &b.History[i].Object.Text)
	}
	for i := range 99 {
		texts = append(texts, &b.Objects[1+i].Text)
	}
	missing := size - len(rawForm(b))
	for _, text := range texts {
		threes := min(missing/3, 250)
		ones := min(missing-3*threes, 50)
		*text = strings.Repeat("\xff", threes) + strings.Repeat("x", ones)
		missing -= 3*threes + ones
	}
	if len(rawForm(b)) != size {
		t.Fatalf("the test's form has %d bytes, and was to have %d", len(rawForm(b)), size)
	}
	wantPoints(t, "sized", b)
	return b
}

func TestLongestForms(t *testing.T) {
	if impl.BookMaxForm != 200000 {
		t.Errorf("BookMaxForm is %d", impl.BookMaxForm)
	}
	for _, size := range []int{100000, 199998, 199999, 200000} {
		b := sized(t, size)
		wantForm(t, "long", b, rawForm(b))
	}
	for _, size := range []int{200001, 200002, 230000} {
		b := sized(t, size)
		wantNoForm(t, "too long", b)
		wantUnread(t, "too long", rawForm(b))
	}
}

func TestNoFormsOfBooksThatAreNotValid(t *testing.T) {
	for what, b := range notValid() {
		wantNoForm(t, what, b)
	}
	wantNoForm(t, "201 changes", longStory(201, 400))
	wantNoForm(t, "51 tickets", clients(yard(), 51))
	spoilt := 0
	eachStory(t, func(dice *rand.Rand, b impl.Book) {
		b = copyBook(b)
		what := spoil(dice, &b)
		if len(brokenPoints(b)) > 0 {
			wantNoForm(t, what, b)
			spoilt++
		}
	})
	if spoilt < 1000 {
		t.Errorf("the test is not worth much: %d books are not valid", spoilt)
	}
}

// Promise 10, of books that no writes lead to.
func TestPromise10Stories(t *testing.T) {
	eachStory(t, func(dice *rand.Rand, b impl.Book) {
		if dice.Intn(3) > 0 {
			return
		}
		b = withTexts(dice, b)
		wantForm(t, "a story", b, plainForm(b))
	})
}

// withTexts is a story's book with other texts, and tickets, of any bytes.
func withTexts(dice *rand.Rand, b impl.Book) impl.Book {
	b = copyBook(b)
	for i := range b.History {
		b.History[i].Object.Text = drawnBytes(dice, dice.Intn(12))
	}
	for i, o := range b.Objects {
		b.Objects[i].Text = drawnBytes(dice, dice.Intn(12))
		if o.Version > b.Floor {
			b.Objects[i].Text = b.History[o.Version-b.Floor-1].Object.Text
		}
	}
	for i := range dice.Intn(4) {
		b.Tickets = append(b.Tickets, impl.BookTicket{Client: fmt.Sprint("c", i), Number: 1 + dice.Intn(1000000), Print: drawnBytes(dice, 8), Code: dice.Intn(10), Version: dice.Intn(b.Now + 1)})
	}
	return b
}

func drawnBytes(dice *rand.Rand, size int) string {
	text := make([]byte, size)
	for i := range text {
		text[i] = byte(dice.Intn(256))
		if dice.Intn(2) == 0 {
			text[i] = "\"\\ a\n0"[dice.Intn(6)]
		}
	}
	return string(text)
}

// Promise 10, of books that calls and writes lead to.
func TestPromise10Runs(t *testing.T) {
	sizes := map[bool]int{}
	eachAsking(t, 2, 60, 8, func(r *run, list []*asker) {
		draw(r, list...).ask(t, r)
		r.book = growth(r)
		wantForm(t, "a run", r.book, plainForm(r.book))
		sizes[len(plainForm(r.book)) > 6000]++
	})
	if sizes[true] < 50 || sizes[false] < 50 {
		t.Errorf("the test is not worth much: %d long forms, %d short ones", sizes[true], sizes[false])
	}
}
