package tests

import (
	"fmt"
	"math/big"
	"math/rand"
	"slices"
	"strings"
	"testing"

	"loop.example/wharflog/impl"
)

// wantUnread wants that a text is no form: nothing and false.
func wantUnread(t *testing.T, what, s string) {
	t.Helper()
	if b, ok := plainRead(s); ok {
		t.Errorf("%s: %.300q: the test's text is the form of %+v", what, s, b)
	}
	if b, ok := impl.BookRead(s); ok || !sameBook(b, impl.Book{}) {
		t.Errorf("%s: %.300q: %v, %+v", what, s, ok, b)
	}
}

// wantRead holds a text against the plain reading, and tells whether it is a form.
func wantRead(t *testing.T, what, s string) bool {
	t.Helper()
	want, is := plainRead(s)
	got, ok := impl.BookRead(s)
	if ok != is || !sameBook(got, want) {
		t.Errorf("%s: %q\ngives %v, %+v\nwant  %v, %+v", what, s, ok, got, is, want)
	}
	if ok && (impl.BookForm(got) != s || !apart(spansOf(got))) {
		t.Errorf("%s: %q: its form is %q, lists apart: %v", what, s, impl.BookForm(got), apart(spansOf(got)))
	}
	return is
}

// readCount counts which texts of a test were forms.
type readCount map[bool]int

func (n readCount) see(t *testing.T, what, s string) {
	t.Helper()
	n[wantRead(t, what, s)]++
}

// wantBoth tells whether a test saw enough texts of both sorts to be worth something.
func (n readCount) wantBoth(t *testing.T, forms, others int) {
	t.Helper()
	if n[true] < forms || n[false] < others {
		t.Errorf("the test is not worth much: %d forms, %d others", n[true], n[false])
	}
}

// small is a form with something of everything; the texts and numbers of its first object may be changed on their own.
func small() string {
	return lines("book 12 9",
		`object j a 9 8 - "t\0a" h`, `object k b 12 11 ending "" g h`,
		`change gone k a 10 3 ending "u v"`, `change - k b 11 11 - ""`, `change - k b 12 11 ending "" g h`,
		`ticket ann 10 4 0 "\0012 \2256\ff"`)
}

func TestSmallIsAForm(t *testing.T) {
	if !wantRead(t, "small", small()) || len(small()) > 250 {
		t.Errorf("%q is no form, or long", small())
	}
}

// Promise 10: each byte left out, each byte put in and altered at every place.
func TestReadOneByteChanged(t *testing.T) {
	count := readCount{}
	form := small()
	for i := range len(form) {
		count.see(t, "left out", form[:i]+form[i+1:])
		for c := range 256 {
			if form[i] != byte(c) {
				count.see(t, "altered", form[:i]+string([]byte{byte(c)})+form[i+1:])
			}
			count.see(t, "put in", form[:i]+string([]byte{byte(c)})+form[i:])
		}
	}
	for c := range 256 {
		wantUnread(t, "put in behind", form+string([]byte{byte(c)}))
	}
	count.wantBoth(t, 500, 50000)
}

// Promise 10, for forms of other books, with the bytes that forms are made of.
func TestReadOtherFormsChanged(t *testing.T) {
	texts, _ := escapes()
	count := readCount{}
	for _, form := range []string{"book 0 0\n", "book 10 10\n", shelfForm(), rawForm(texts), rawForm(yard()), rawForm(longStory(12, 105))} {
		for i := range len(form) {
			count.see(t, "left out", form[:i]+form[i+1:])
			count.see(t, "cut off", form[:i])
			for _, c := range []byte(" \n\"\\0129afghAF-.+_\r\t\x00\xff") {
				count.see(t, "altered", form[:i]+string([]byte{c})+form[i+1:])
				count.see(t, "put in", form[:i]+string([]byte{c})+form[i:])
			}
		}
	}
	count.wantBoth(t, 1000, 20000)
}

func TestReadLinesInAnotherOrder(t *testing.T) {
	count := readCount{}
	for _, form := range []string{small(), shelfForm(), rawForm(drawer())} {
		list := strings.SplitAfter(strings.TrimSuffix(form, "\n"), "\n")
		list[len(list)-1] += "\n"
		join := func(list []string) string { return strings.Join(list, "") }
		for i := range list {
			count.see(t, "a line less", join(slices.Delete(slices.Clone(list), i, i+1)))
			count.see(t, "a line twice", join(slices.Insert(slices.Clone(list), i, list[i])))
			for j := range i {
				turned := slices.Clone(list)
				turned[i], turned[j] = turned[j], turned[i]
				wantUnread(t, "two lines turned", join(turned))
				moved := slices.Insert(slices.Delete(slices.Clone(list), i, i+1), j, list[i])
				wantUnread(t, "a line ahead", join(moved))
				wantUnread(t, "a line that comes again", join(slices.Insert(slices.Clone(list), i, list[j])))
			}
		}
		for i := range list {
			wantUnread(t, "an empty line", join(slices.Insert(slices.Clone(list), i, "\n")))
			wantUnread(t, "a line of a space", join(slices.Insert(slices.Clone(list), i, " \n")))
			wantUnread(t, "a line that is none", join(slices.Insert(slices.Clone(list), i, "other 0 0\n")))
			wantUnread(t, "another head", join(slices.Insert(slices.Clone(list), i, "book 0 0\n")))
		}
		wantUnread(t, "an empty line at the end", form+"\n")
	}
	count.wantBoth(t, 5, 20)
}

// numbers are the places of all that looks like a number in a form: from where, and up to where.
func numbers(form string) [][2]int {
	var places [][2]int
	for i := 1; i < len(form); i++ {
		if form[i-1] != ' ' || form[i] < '0' || form[i] > '9' {
			continue
		}
		end := i
		for form[end] >= '0' && form[end] <= '9' {
			end++
		}
		if form[end] == ' ' || form[end] == '\n' {
			places = append(places, [2]int{i, end})
		}
	}
	return places
}

// otherNumbers are numbers that would do if they were written otherwise, or taken for what is left of them in fewer bits.
func otherNumbers(digits string) []string {
	n, _ := new(big.Int).SetString(digits, 10)
	others := []string{"0" + digits, "00" + digits, strings.Repeat("0", 30) + digits, "+" + digits, "-" + digits, "0x" + n.Text(16), "0b" + n.Text(2), "0o" + n.Text(8),
		digits + ".", digits + ".0", digits + "e0", "_" + digits, digits + "_", digits[:1] + "_" + digits[1:], " " + digits, digits + " ", "", "-", "x", "\"" + digits + "\"",
		"1000001", "9999999", "10000000", "2147483648", "4294967296", "9223372036854775807", "9223372036854775808", "99999999999999999999", strings.Repeat("9", 400)}
	for _, bits := range []uint{31, 32, 63, 64, 128} {
		others = append(others, new(big.Int).Add(n, new(big.Int).Lsh(big.NewInt(1), bits)).String())
		others = append(others, new(big.Int).Sub(n, new(big.Int).Lsh(big.NewInt(1), bits)).String())
	}
	return others
}

func TestReadNumbers(t *testing.T) {
	for _, form := range []string{small(), shelfForm(), "book 0 0\n", "book 10 10\n", rawForm(yard())} {
		for _, place := range numbers(form) {
			digits := form[place[0]:place[1]]
			for _, other := range otherNumbers(digits) {
				wantUnread(t, fmt.Sprintf("%q for %q", other, digits), form[:place[0]]+other+form[place[1]:])
			}
		}
	}
}

// A quoting is what stands where a text in quotes belongs, and the text, if it is one.
type quoting struct {
	quoted string
	text   string
	is     bool
}

func quotings() []quoting {
	return []quoting{
		{`""`, "", true}, {`"a"`, "a", true}, {`" "`, " ", true}, {`"\22"`, `"`, true}, {`"\5c"`, `\`, true}, {`"\0a"`, "\n", true}, {`"\7f\80"`, "\x7f\x80", true},
		{`"\5c\5c"`, `\\`, true}, {`"\5c22"`, `\22`, true}, {`"\00"`, "\x00", true}, {`"~!#[]"`, "~!#[]", true}, {`"a h"`, "a h", true}, {`"\012"`, "\x01" + "2", true},
		{`"\61"`, "", false}, {`"\20"`, "", false}, {`"\7e"`, "", false}, {`"\21"`, "", false}, {`"\30"`, "", false}, // needless
		{`"\0A"`, "", false}, {`"\FF"`, "", false}, {`"\fF"`, "", false}, {`"\5C"`, "", false}, {`"\7F"`, "", false}, // other digits
		{`"\`, "", false}, {`"\"`, "", false}, {`"\0`, "", false}, {`"\0"`, "", false}, {`"\0a`, "", false}, {`"a\"`, "", false}, {`"\a"`, "", false}, // too early
		{`"\n"`, "", false}, {`"\\"`, "", false}, {`"\""`, "", false}, {`"\x0a"`, "", false}, {`"\u000a"`, "", false}, {`"\g0"`, "", false}, {`"\0g"`, "", false},
		{`"\ 0"`, "", false}, {`"\+1"`, "", false}, {`"\-1"`, "", false}, {`"\_1"`, "", false}, {`"\0_"`, "", false}, {`"\1 "`, "", false},
		{"\"\n\"", "", false}, {"\"\x00\"", "", false}, {"\"\x1f\"", "", false}, {"\"\x7f\"", "", false}, {"\"\x80\"", "", false}, {"\"\xff\"", "", false}, {"\"\u00e9\"", "", false},
		{`"`, "", false}, {``, "", false}, {`a`, "", false}, {`a"`, "", false}, {`"a`, "", false}, {`"a"a`, "", false}, {`"a"a"`, "", false}, {`"""`, "", false}, {`'a'`, "", false}, {"`a`", "", false},
		{`"a"  h`, "", false}, {`"a" `, "", false}, {`"a" h `, "", false}, {`"a"h`, "", false}, {` "a"`, "", false}, {`"a" H`, "", false}, {`"a" h h`, "", false}, {`"a" h g`, "", false}, {`"a" "h"`, "", false},
	}
}

func TestReadQuotes(t *testing.T) {
	for _, c := range append(quotings(), []quoting{
		{`"a" h`, "a", true},
		{`"` + strings.Repeat("x", 300) + `"`, strings.Repeat("x", 300), true}, {`"` + strings.Repeat("x", 301) + `"`, "", false},
		{`"` + strings.Repeat(`\ff`, 300) + `"`, strings.Repeat("\xff", 300), true}, {`"` + strings.Repeat(`\ff`, 301) + `"`, "", false},
	}...) {
		s := "book 1 1\nobject k n 1 1 - " + c.quoted + "\n"
		if !c.is {
			wantUnread(t, "quotes", s)
			wantUnread(t, "quotes, no newline", strings.TrimSuffix(s, "\n"))
			continue
		}
		got, ok := impl.BookRead(s)
		if !ok || len(got.Objects) != 1 || got.Objects[0].Text != c.text {
			t.Errorf("%s: %v, %+v", s, ok, got)
		}
	}
	for quoted, is := range map[string]bool{
		`"12345678"`: true, `"1234567"`: false, `"123456789"`: false, `""`: false, `"1234567\ff"`: true, `"\ff\ff\ff\ff\ff\ff\ff\ff"`: true, `"12345\ff"`: false,
		`"1234567\38"`: false, `"1234567\FF"`: false, `"1234567\f"`: false, `12345678`: false, `"12345678" h`: false, `"12345678" `: false, `"1234567\0a"`: true, "\"1234567\n\"": false,
	} {
		s := "book 0 0\nticket ann 1 0 0 " + quoted + "\n"
		if _, ok := impl.BookRead(s); ok != is {
			t.Errorf("%s: %v", s, ok)
		}
		wantRead(t, "a Print", s)
	}
}

func TestReadOtherTexts(t *testing.T) {
	for _, s := range []string{
		"", " ", "\n", "\n\n", "book", "book\n", "book \n", "book 0\n", "book 0 \n", "book 0 0", "book 0 0 \n", "book 0 0\r\n", "book 0 0\n\r", "book 0 0\n ", " book 0 0\n", "\nbook 0 0\n", "Book 0 0\n",
		"book  0 0\n", "book 0  0\n", "book 0 0 0\n", "book\t0 0\n", "book 0\n0\n", "book 0 0\x00", "book 0 0\n\x00", "\xef\xbb\xbfbook 0 0\n", "book0 0\n", "book 0 0\nbook 0 0\n", "book 1 0\n", "book 0 1\n", "book -0 0\n",
		"object k n 1 1 - \"\"\n", "object k n 1 1 - \"\"\nbook 1 1\n", "ticket ann 1 0 0 \"12345678\"\nbook 0 0\n", "book 0 0\nobject\n", "book 0 0\nchange\n", "book 0 0\nticket\n", "book 0 0\nobject ", "book 0 0\nchange - ",
		"book 1 1\nobject k n 1 1 - \"\" \n", "book 1 1\nobject k n 1 1  \"\"\n", "book 1 1\nobject k n 1 1 Ending \"\" h\n", "book 1 1\nobject k n 1 1 + \"\"\n", "book 1 1\nobject k n 1 1 gone \"\"\n", "book 1 1\nobject k n 1 1 ending \"\"\n",
		"book 1 1\nobject k n 1 1 \"\"\n", "book 1 1\nobject - k n 1 1 - \"\"\n", "book 1 1\nobject k  n 1 1 - \"\"\n", "book 1 1\nobject  n 1 1 - \"\"\n", "book 1 1\nobject k 1 1 - \"\"\n", "book 1 1\nobject K n 1 1 - \"\"\n",
		"book 1 0\nobject k n 1 1 - \"\"\nchange k n 1 1 - \"\"\n", "book 1 0\nobject k n 1 1 - \"\"\nchange ending k n 1 1 - \"\"\n", "book 1 0\nobject k n 1 1 - \"\"\nchange gone k n 1 1 - \"\"\n", "book 1 0\nobject k n 1 1 - \"\"\nchange - k n 1 1 - \"t\"\n",
		"book 0 0\nticket ann 1 0 1 \"12345678\"\n", "book 0 0\nticket ann 0 0 0 \"12345678\"\n", "book 0 0\nticket ann 1 10 0 \"12345678\"\n", "book 0 0\nticket ann 1 0 \"12345678\"\n", "book 0 0\nticket Ann 1 0 0 \"12345678\"\n",
		"nothing", "{}", "\xff", "\"", "\\", strings.Repeat("\n", 1000), strings.Repeat(" ", 1000), strings.Repeat("book 0 0\n", 50),
	} {
		wantUnread(t, "no form", s)
	}
	long := strings.Repeat("z", 21)
	wantUnread(t, "a long kind", "book 1 1\nobject "+long+" n 1 1 - \"\"\n")
	wantUnread(t, "a long name", "book 1 1\nobject k "+long+" 1 1 - \"\"\n")
	wantUnread(t, "a long hold", "book 1 1\nobject k n 1 1 - \"\" "+long+"\n")
	wantUnread(t, "a long client", "book 1 1\nticket "+long+" 1 0 0 \"12345678\"\n")
	wantUnread(t, "6 holds", "book 1 1\nobject k n 1 1 - \"\" a b c d e f\n")
}

// Texts that are as long as a form may be, or longer, and are none.
func TestReadLongTexts(t *testing.T) {
	for _, piece := range []string{"\n", " ", "book 0 0\n", "object ", "object k n 1 1 - \"\"\n", "change - k n 1 1 - \"\" h", "ticket\n", "\"", "\\", "x", "\xff", "book 0 0\nobject k n 1 1 - \"" + strings.Repeat("x", 400)} {
		s := strings.Repeat(piece, 1000001/len(piece))
		for _, size := range []int{199999, 200000, 200001, 1000000} {
			wantUnread(t, "long", s[:min(size, len(s))])
			wantUnread(t, "long, behind a form", ("book 0 0\n" + s)[:min(size, len(s))])
			wantUnread(t, "long, behind a beginning", ("book 1 1\nobject k n 1 1 - \"" + s)[:min(size, len(s))])
		}
	}
	whole := rawForm(sized(t, 200000))
	wantUnread(t, "one byte more", whole+"\n")
	wantUnread(t, "one byte less", whole[:199999])
	wantUnread(t, "another end", whole[:199999]+" ")
}

// Forms, as they would be, of books that are not valid.
func TestReadFormsOfSpoiltBooks(t *testing.T) {
	count := readCount{}
	for what, b := range notValid() {
		count.see(t, what, rawForm(b))
	}
	wantUnread(t, "201 changes", rawForm(longStory(201, 400)))
	wantUnread(t, "101 objects", rawForm(crowded(101)))
	wantUnread(t, "51 tickets", rawForm(clients(yard(), 51)))
	eachStory(t, func(dice *rand.Rand, b impl.Book) {
		b = withTexts(dice, b)
		what := spoil(dice, &b)
		count.see(t, what, rawForm(b))
	})
	count.wantBoth(t, 1000, 1000)
}

// Promise 10: whatever is read is a form, of texts that are nearly forms.
func TestPromise10NothingElse(t *testing.T) {
	count := readCount{}
	eachStory(t, func(dice *rand.Rand, b impl.Book) {
		form := rawForm(withTexts(dice, b))
		for range 3 {
			count.see(t, "drawn", scratched(dice, form))
		}
	})
	count.wantBoth(t, 1000, 10000)
}

const scratches = " \n\"\\0123456789abcdefxyz-.~\x00\xff"

// scratched is a form with a few bytes that were left out, put in, altered or moved.
func scratched(dice *rand.Rand, form string) string {
	text := []byte(form)
	for range 1 + dice.Intn(2) {
		at := dice.Intn(len(text))
		c := scratches[dice.Intn(len(scratches))]
		switch dice.Intn(4) {
		case 0:
			text = slices.Delete(text, at, at+1)
		case 1:
			text = slices.Insert(text, at, c)
		case 2:
			text[at] = c
		default:
			to := min(len(text), at+1+dice.Intn(8))
			text = slices.Insert(text, dice.Intn(len(text)), slices.Clone(text[at:to])...)
		}
	}
	return string(text)
}
