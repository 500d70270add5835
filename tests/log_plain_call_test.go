package tests

import (
	"fmt"
	"regexp"
	"slices"
	"strings"

	"loop.example/wharflog/impl"
)

// This file says once more which calls have a form, which texts are forms, and what texts lead to, with the document's
// numbers; the other tests hold the program against it.

// plainLogForm is LogForm.
func plainLogForm(c impl.BookCall) string {
	if !plainHasForm(c) {
		return ""
	}
	return rawCall(c)
}

func plainHasForm(c impl.BookCall) bool {
	return len(c.Bundle.Wants) == 0 && len(c.Bundle.Writes) == 1 && plainMayAsk(c) && len(rawCall(c)) <= 100
}

// plainMayAsk is what a call of one write has to be for a form, but for its size.
func plainMayAsk(c impl.BookCall) bool {
	w := c.Bundle.Writes[0]
	return nameForm.MatchString(c.Client) && c.Number >= 1 && c.Number <= 1000000 && !plainRefused(w) && w.Seen <= 1000000
}

// rawCall is what the form of a call of one write would be, if it had one.
func rawCall(c impl.BookCall) string {
	w := c.Bundle.Writes[0]
	hold := w.Hold
	if hold == "" {
		hold = "*"
	}
	return fmt.Sprintf("%s %d %d %s %s %d %s %s", c.Client, c.Number, w.Op, w.Kind, w.Name, w.Seen, hold, plainQuote(w.Text))
}

// What a form looks like: all but what its numbers may be, and what the Op has a use for. A byte that stands for itself is not
// among the escapes.
var callLook = regexp.MustCompile(`\A` + strings.Join([]string{
	nameLook, numberLook, `([1-5])`, nameLook, nameLook, numberLook, `(\*|[a-z0-9.-]{1,20})`,
	`"((?:[ !#-\[\]-~]|\\(?:[01][0-9a-f]|22|5c|7f|[89a-f][0-9a-f]))*)"`,
}, " ") + `\z`)

// plainLogRead is LogRead.
func plainLogRead(s string) (impl.BookCall, bool) {
	m := callLook.FindStringSubmatch(s)
	if m == nil || len(s) > 100 {
		return impl.BookCall{}, false
	}
	c := call(m[1], plainNumber(m[2]), writes(impl.BookWrite{
		Op: plainNumber(m[3]), Kind: m[4], Name: m[5], Seen: plainNumber(m[6]), Hold: strings.TrimPrefix(m[7], "*"), Text: plainText(m[8]),
	}))
	if !plainMayAsk(c) {
		return impl.BookCall{}, false
	}
	return c, true
}

// An ask is BookAsk: the program's, or the plain one.
type ask = func(b impl.Book, c impl.BookCall) (impl.Book, impl.BookSaid)

// plainState is LogState.
func plainState(texts []string, ask ask) impl.Book {
	b := impl.Book{}
	for _, text := range texts {
		if c, is := plainLogRead(text); is {
			b, _ = ask(b, c)
		}
	}
	return b
}

// plainSaid is LogSaid.
func plainSaid(texts []string, text string, ask ask) (impl.BookSaid, bool) {
	c, is := plainLogRead(text)
	place := slices.Index(texts, text)
	if !is || place < 0 {
		return impl.BookSaid{}, false
	}
	_, s := ask(plainState(texts[:place], ask), c)
	return s, true
}
