package tests

import (
	"fmt"
	"hash/fnv"
	"regexp"
	"slices"
	"strconv"
	"strings"

	"loop.example/wharflog/impl"
)

// This file says once more what calls do, what prints and forms are, and which texts are forms; the other tests hold the
// program against it.

var notPlain = regexp.MustCompile(`[^ !#-\[\]-~]+`)

// plainQuote is a text in quotes.
func plainQuote(text string) string {
	return `"` + notPlain.ReplaceAllStringFunc(text, func(run string) string {
		out := ""
		for _, c := range []byte(run) {
			out += fmt.Sprintf(`\%02x`, c)
		}
		return out
	}) + `"`
}

// plainPrint is a bundle's Print.
func plainPrint(x impl.BookBundle) string {
	sum := fnv.New64a()
	for _, w := range x.Wants {
		fmt.Fprintf(sum, "want %s %s %d\n", w.Kind, w.Name, w.Version)
	}
	for _, w := range x.Writes {
		fmt.Fprintf(sum, "write %d %s %s %d %s %s\n", w.Op, w.Kind, w.Name, w.Seen, plainQuote(w.Text), w.Hold)
	}
	return string(sum.Sum(nil))
}

// plainAsk is BookAsk.
func plainAsk(b impl.Book, c impl.BookCall) (impl.Book, impl.BookSaid) {
	if len(brokenPoints(b)) > 0 || !nameForm.MatchString(c.Client) || c.Number < 1 || c.Number > 1000000 {
		return b, impl.BookSaid{Code: 1}
	}
	if plainBundleRefused(c.Bundle) {
		return b, impl.BookSaid{Code: 2}
	}
	print := plainPrint(c.Bundle)
	last, known := ticketOf(b, c.Client)
	switch {
	case known && c.Number == last.Number && print == last.Print:
		return b, impl.BookSaid{Code: last.Code, Version: last.Version, Again: true}
	case known && c.Number == last.Number:
		return b, impl.BookSaid{Code: 7}
	case known && c.Number < last.Number:
		return b, impl.BookSaid{Code: 8}
	case !known && len(b.Tickets) == 50:
		return b, impl.BookSaid{Code: 6}
	}
	did, _ := plainAll(b, c.Bundle)
	next := impl.BookTicket{Client: c.Client, Number: c.Number, Print: print, Code: did.Code, Version: did.Version}
	return withTicket(did.Book, next), impl.BookSaid{Code: did.Code, Version: did.Version}
}

func ticketOf(b impl.Book, client string) (impl.BookTicket, bool) {
	for _, t := range b.Tickets {
		if t.Client == client {
			return t, true
		}
	}
	return impl.BookTicket{}, false
}

// withTicket is a book with this ticket in the place of its client's last one.
func withTicket(b impl.Book, next impl.BookTicket) impl.Book {
	b = copyBook(b)
	b.Tickets = slices.DeleteFunc(b.Tickets, func(t impl.BookTicket) bool { return t.Client == next.Client })
	b.Tickets = append(b.Tickets, next)
	slices.SortFunc(b.Tickets, func(t, u impl.BookTicket) int { return strings.Compare(t.Client, u.Client) })
	return b
}

// plainForm is BookForm.
func plainForm(b impl.Book) string {
	form := rawForm(b)
	if len(brokenPoints(b)) > 0 || len(form) > 200000 {
		return ""
	}
	return form
}

// rawForm is what the form of a book would be if it were valid, and however long it is.
func rawForm(b impl.Book) string {
	var out strings.Builder
	fmt.Fprintf(&out, "book %d %d\n", b.Now, b.Floor)
	for _, o := range b.Objects {
		out.WriteString("object" + rawObject(o))
	}
	for _, c := range b.History {
		out.WriteString("change " + map[bool]string{true: "gone", false: "-"}[c.Gone] + rawObject(c.Object))
	}
	for _, t := range b.Tickets {
		fmt.Fprintf(&out, "ticket %s %d %d %d %s\n", t.Client, t.Number, t.Code, t.Version, plainQuote(t.Print))
	}
	return out.String()
}

func rawObject(o impl.BookObject) string {
	out := fmt.Sprintf(" %s %s %d %d %s %s", o.Kind, o.Name, o.Version, o.Born, map[bool]string{true: "ending", false: "-"}[o.Ending], plainQuote(o.Text))
	for _, h := range o.Holds {
		out += " " + h
	}
	return out + "\n"
}

// What lines of forms look like; what a number may be, what a text says and whether the book is valid is asked afterwards.
const (
	nameLook   = `([a-z0-9.-]{1,20})`
	numberLook = `(0|[1-9][0-9]{0,6})`
	quoteLook  = `"((?:[ !#-\[\]-~]|\\[0-9a-f]{2})*)"`
	objectLook = nameLook + ` ` + nameLook + ` ` + numberLook + ` ` + numberLook + ` (ending|-) ` + quoteLook + `((?: [a-z0-9.-]{1,20}){0,5})`
)

var (
	bookLine   = regexp.MustCompile(`\Abook ` + numberLook + ` ` + numberLook + `\z`)
	objectLine = regexp.MustCompile(`\Aobject ` + objectLook + `\z`)
	changeLine = regexp.MustCompile(`\Achange (gone|-) ` + objectLook + `\z`)
	ticketLine = regexp.MustCompile(`\Aticket ` + nameLook + ` ` + numberLook + ` ` + numberLook + ` ` + numberLook + ` ` + quoteLook + `\z`)
	escape     = regexp.MustCompile(`\\[0-9a-f]{2}`)
)

// plainRead is BookRead.
func plainRead(s string) (impl.Book, bool) {
	if len(s) > 200000 || !strings.HasSuffix(s, "\n") {
		return impl.Book{}, false
	}
	var b impl.Book
	for i, line := range strings.Split(strings.TrimSuffix(s, "\n"), "\n") {
		if (i == 0) != bookLine.MatchString(line) || !plainReadLine(&b, line) {
			return impl.Book{}, false
		}
	}
	if plainForm(b) != s {
		return impl.Book{}, false
	}
	return b, true
}

func plainReadLine(b *impl.Book, line string) bool {
	if m := bookLine.FindStringSubmatch(line); m != nil {
		b.Now, b.Floor = plainNumber(m[1]), plainNumber(m[2])
		return true
	}
	if m := objectLine.FindStringSubmatch(line); m != nil {
		b.Objects = append(b.Objects, plainObject(m[1:]))
		return true
	}
	if m := changeLine.FindStringSubmatch(line); m != nil {
		o := plainObject(m[2:])
		b.History = append(b.History, impl.BookChange{Version: o.Version, Gone: m[1] == "gone", Object: o})
		return true
	}
	if m := ticketLine.FindStringSubmatch(line); m != nil {
		b.Tickets = append(b.Tickets, impl.BookTicket{Client: m[1], Number: plainNumber(m[2]), Code: plainNumber(m[3]), Version: plainNumber(m[4]), Print: plainText(m[5])})
		return true
	}
	return false
}

func plainObject(m []string) impl.BookObject {
	return impl.BookObject{Kind: m[0], Name: m[1], Version: plainNumber(m[2]), Born: plainNumber(m[3]), Ending: m[4] == "ending", Text: plainText(m[5]), Holds: strings.Fields(m[6])}
}

func plainNumber(s string) int {
	n, err := strconv.Atoi(s)
	if err != nil {
		panic(err)
	}
	return n
}

// plainText is what a text says that stood between quotes.
func plainText(inside string) string {
	return escape.ReplaceAllStringFunc(inside, func(three string) string {
		n, err := strconv.ParseUint(three[1:], 16, 8)
		if err != nil {
			panic(err)
		}
		return string([]byte{byte(n)})
	})
}
