package tests

import (
	"fmt"
	"math/rand"
	"slices"
	"strings"
	"testing"

	"loop.example/wharflog/impl"
)

// wantNoCall wants that a text is no form: nothing and false.
func wantNoCall(t *testing.T, what, s string) {
	t.Helper()
	if c, is := plainLogRead(s); is {
		t.Errorf("%s: %.300q: the test's text is the form of %+v", what, s, c)
	}
	if c, ok := impl.LogRead(s); ok || !same(c, impl.BookCall{}) {
		t.Errorf("%s: %.300q: %v, %+v", what, s, ok, c)
	}
}

// wantCall wants that a text is the form of a call, which is new memory each time.
func wantCall(t *testing.T, what, s string, c impl.BookCall) {
	t.Helper()
	if plain, is := plainLogRead(s); !is || !same(plain, c) {
		t.Errorf("%s: %q: the test's call is %v, %+v", what, s, is, plain)
	}
	got, ok := impl.LogRead(s)
	if !ok || !same(got, c) {
		t.Errorf("%s: %q gives %v, %+v, want %+v", what, s, ok, got, c)
	}
	if impl.LogForm(got) != s {
		t.Errorf("%s: the form of the call is %q, and was %q", what, impl.LogForm(got), s)
	}
	other, _ := impl.LogRead(s)
	if !apart(append(listSpans(got), listSpans(other)...)) {
		t.Errorf("%s: %q: calls share memory", what, s)
	}
}

// seeCall holds a text against the plain reading, and counts whether it is a form.
func (n readCount) seeCall(t *testing.T, what, s string) {
	t.Helper()
	c, is := plainLogRead(s)
	n[is]++
	if is {
		wantCall(t, what, s, c)
	} else {
		wantNoCall(t, what, s)
	}
}

// callForms are forms with something of everything.
func callForms() []string {
	return []string{
		`ann 3 1 k x 0 h "a \22b\22"`, `ann 3 1 k x 0 * ""`, `b.1 1 3 k x 7 * ""`, `z 1000000 2 kind name 1000000 * "t  u"`, `a 12 4 k x 0 h ""`, `a 120 5 k x 30 h-1.x ""`,
		`- 2 2 . 0 1 * "\00\5c* \ff"`, `zzzzzzzzzzzzzzzzzzzz 1000000 4 zzzzzzzzzzzzzzzzzzzz zzzzzzzzzzzzzzzzzzzz 999 zzzzzzzzzzzzzzzzzzzz ""`, `ann 1 1 k x 0 * "` + long(82) + `"`,
	}
}

// fieldsOf are the eight fields of a form.
func fieldsOf(form string) []string {
	return strings.SplitN(form, " ", 8)
}

// withField is a form with another field at a place.
func withField(form string, place int, field string) string {
	fields := fieldsOf(form)
	fields[place] = field
	return strings.Join(fields, " ")
}

func TestCallForms(t *testing.T) {
	for _, form := range callForms() {
		c, is := plainLogRead(form)
		if !is || len(fieldsOf(form)) != 8 || len(form) > 100 {
			t.Errorf("%q is no form", form)
		}
		wantLogForm(t, "a form", c, form)
	}
}

// A space more or less, at the beginning, between two fields and at the end; and what might be taken for one.
func TestLogReadSpaces(t *testing.T) {
	for _, form := range callForms() {
		fields := fieldsOf(form)
		for i := range 9 {
			ahead, behind := strings.Join(fields[:i], " "), strings.Join(fields[i:], " ")
			if i == 0 || i == 8 {
				ahead, behind = ahead+behind, ""
			}
			for _, between := range []string{"", "  ", "   ", "\t", "\n", "\r\n", " \t", "\u00a0", "\x00", "_", ",", " * ", " - ", " \n "} {
				switch {
				case i == 0 && between != "":
					wantNoCall(t, fmt.Sprintf("%q at the beginning", between), between+ahead)
				case i == 8 && between != "":
					wantNoCall(t, fmt.Sprintf("%q at the end", between), ahead+between)
				case i > 0 && i < 8:
					wantNoCall(t, fmt.Sprintf("%q between two fields", between), ahead+between+behind)
				}
			}
		}
		for _, space := range []string{" ", "\n", "\r\n", "\t", "\x00"} {
			wantNoCall(t, "at the beginning", space+form)
			wantNoCall(t, "at the end", form+space)
			wantNoCall(t, "around", space+form+space)
		}
	}
}

// A field less, one more, and two that changed places.
func TestLogReadFields(t *testing.T) {
	count := readCount{}
	for _, form := range callForms() {
		fields := fieldsOf(form)
		for i := range fields {
			wantNoCall(t, "a field less", strings.Join(slices.Delete(slices.Clone(fields), i, i+1), " "))
			wantNoCall(t, "an empty field", withField(form, i, ""))
			wantNoCall(t, "the first fields alone", strings.Join(fields[:i], " "))
			wantNoCall(t, "the first fields and a space", strings.Join(fields[:i], " ")+" ")
			wantNoCall(t, "the last fields alone", strings.Join(fields[i+1:], " "))
			for _, more := range []string{fields[i], "x", "0", "1", "*", `""`, `"a"`} {
				count.seeCall(t, "a field more", strings.Join(slices.Insert(slices.Clone(fields), i, more), " "))
				wantNoCall(t, "a field more at the end", form+" "+more)
			}
			for j := range i {
				turned := slices.Clone(fields)
				turned[i], turned[j] = turned[j], turned[i]
				count.seeCall(t, "two fields turned", strings.Join(turned, " "))
			}
		}
		wantNoCall(t, "twice", form+" "+form)
		wantNoCall(t, "twice, and nothing between", form+form)
		wantNoCall(t, "a line", form+"\n")
		wantNoCall(t, "two lines", form+"\n"+form)
	}
	count.wantBoth(t, 5, 400)
}

func TestLogReadNumbers(t *testing.T) {
	for _, form := range callForms() {
		for _, place := range []int{1, 2, 5} {
			digits := fieldsOf(form)[place]
			for _, other := range append(otherNumbers(digits), "*", "h", "\""+digits, digits+"\n", "\u0663", "1000002", "-1", "-0", "+0", "00") {
				wantNoCall(t, fmt.Sprintf("%q for %q", other, digits), withField(form, place, other))
			}
		}
		for _, op := range []string{"0", "6", "7", "8", "9", "10", "12", "256", "257", "4294967297"} {
			wantNoCall(t, "no Op", withField(form, 2, op))
		}
	}
	wantNoCall(t, "Number 0", `ann 0 3 k x 0 * ""`)
	wantNoCall(t, "a Number too many", `ann 1000001 3 k x 0 * ""`)
	wantNoCall(t, "a Seen too many", `ann 1 3 k x 1000001 * ""`)
	wantNoCall(t, "a Seen of an object that is made", `ann 1 1 k x 1 * ""`)
	wantCall(t, "the greatest ones", `ann 1000000 3 k x 1000000 * ""`, one("ann", 1000000, seen(1000000, end("x"))))
}

// Names, `*` where a name belongs, and a name where `*` belongs.
func TestLogReadNames(t *testing.T) {
	for _, form := range callForms() {
		for _, place := range []int{0, 3, 4} {
			for _, other := range []string{"*", "**", "A", "a*", "a_b", "\"a\"", `""`, "a\n", "\n", "\xff", "\u00e9", "\x00", strings.Repeat("y", 21), "a\tb", "/", ":", "`", "{", ","} {
				wantNoCall(t, fmt.Sprintf("%q for a name", other), withField(form, place, other))
			}
		}
		for _, other := range []string{"", "**", "*h", "h*", "-*", "H", "h_", "\"h\"", `""`, `"*"`, "h\n", "\xff", strings.Repeat("y", 21), "\\2a"} {
			wantNoCall(t, fmt.Sprintf("%q for a hold", other), withField(form, 6, other))
		}
	}
	for form, is := range map[string]bool{
		`ann 1 1 k x 0 h ""`: true, `ann 1 1 k x 0 * ""`: true, `ann 1 1 k x 0 - ""`: true, `ann 1 1 k x 0 0 ""`: true,
		`ann 1 2 k x 0 h ""`: false, `ann 1 2 k x 0 * ""`: true, `ann 1 2 k x 0 - ""`: false,
		`ann 1 3 k x 0 h ""`: false, `ann 1 3 k x 0 * ""`: true, `ann 1 3 k x 0 - ""`: false,
		`ann 1 4 k x 0 h ""`: true, `ann 1 4 k x 0 * ""`: false, `ann 1 4 k x 0 - ""`: true,
		`ann 1 5 k x 0 h ""`: true, `ann 1 5 k x 0 * ""`: false, `ann 1 5 k x 0 - ""`: true,
		`ann 1 1 k x 0 h "t"`: true, `ann 1 2 k x 0 * "t"`: true, `ann 1 3 k x 0 * "t"`: false, `ann 1 4 k x 0 h "t"`: false, `ann 1 5 k x 0 h "t"`: false,
		`ann 1 3 k x 0 * "*"`: false, `ann 1 1 k x 0 * "*"`: true, `* 1 1 k x 0 * ""`: false, `ann 1 1 * x 0 * ""`: false, `ann 1 1 k * 0 * ""`: false, `ann * 1 k x 0 * ""`: false, `ann 1 * k x 0 * ""`: false, `ann 1 1 k x * * ""`: false,
		`ann 1 1 k x 0 * *`: false,
	} {
		if _, ok := impl.LogRead(form); ok != is {
			t.Errorf("%s: %v", form, ok)
		}
		readCount{}.seeCall(t, "a name or none", form)
	}
}

func TestLogReadQuotes(t *testing.T) {
	for _, q := range append(quotings(), []quoting{
		{`"a" h`, "", false}, {`"a"""`, "", false}, {`""a`, "", false}, {`"" `, "", false}, {`"" ""`, "", false}, {`a""`, "", false}, {`"a`, "", false}, {`\22a\22`, "", false}, {`*`, "", false}, {`"*"`, "*", true},
		{`"a  b "`, "a  b ", true}, {`"  "`, "  ", true}, {`"\00\01\1f\7f\80\fe\ff"`, "\x00\x01\x1f\x7f\x80\xfe\xff", true}, {`"\22\22"`, `""`, true}, {`"ann 1 1 k x 0 *"`, "ann 1 1 k x 0 *", true},
		{`"\22`, "", false}, {`"\2"`, "", false}, {`"\22 \2"`, "", false}, {`"\22\"`, "", false}, {`"\\22"`, "", false}, {`"\a0"`, "\xa0", true}, {`"\A0"`, "", false}, {`"\aF"`, "", false}, {`"\aF`, "", false},
	}...) {
		for _, ahead := range []string{"ann 1 1 k x 0 * ", "ann 1 1 k x 0 h ", "b 22 2 k x 3 * "} {
			s := ahead + q.quoted
			if !q.is {
				wantNoCall(t, "quotes", s)
				continue
			}
			c, _ := plainLogRead(ahead + `""`)
			c.Bundle.Writes[0].Text = q.text
			wantCall(t, "quotes", s, c)
		}
	}
}

// Each byte written as itself and as `\` and two digits: one of the two is a form.
func TestLogReadBytes(t *testing.T) {
	for c := range 256 {
		itself, escaped := `ann 1 1 k x 0 * "`+string([]byte{byte(c)})+`"`, fmt.Sprintf(`ann 1 1 k x 0 * "\%02x"`, c)
		plain := c >= 32 && c <= 126 && c != '"' && c != '\\'
		good, bad := escaped, itself
		if plain {
			good, bad = itself, escaped
		}
		wantCall(t, "a byte", good, one("ann", 1, create("x", string([]byte{byte(c)}), "")))
		wantNoCall(t, "a byte", bad)
		if upper := fmt.Sprintf(`ann 1 1 k x 0 * "\%02X"`, c); upper != escaped {
			wantNoCall(t, "a byte in other digits", upper)
		}
		wantNoCall(t, "a byte in one digit", fmt.Sprintf(`ann 1 1 k x 0 * "\%x"`, c%16))
	}
}

func TestLogReadOtherTexts(t *testing.T) {
	for _, s := range []string{
		"", " ", "       ", "        ", "\n", "*", `""`, "x", "no call", "ann", "ann 1", "ann 1 1 k x 0 *", "ann 1 1 k x 0 * ", `ann 1 1 k x 0 * "`, `ann 1 1 k x 0 ""`, `ann 1 1 k x * ""`, `1 1 k x 0 * ""`,
		"book 0 0\n", `write 1 k x 0 "" `, `write 1 k x 0 "" h` + "\n", "want k x 0\n", `ticket ann 1 0 0 "12345678"`, "\xef\xbb\xbf" + `ann 1 1 k x 0 * ""`, `ANN 1 1 K X 0 * ""`, `ann,1,1,k,x,0,*,""`, `ann 1 1 k x 0 "" *`, `ann 1 1 k x 0 * ''`,
		"{}", "\xff", "\"", "\\", long(100), strings.Repeat(" ", 100), strings.Repeat("a ", 50), strings.Repeat(`"`, 100), strings.Repeat(`\`, 100),
	} {
		wantNoCall(t, "no form", s)
	}
}

// Texts of more than 100 bytes, and of as many as that.
func TestLogReadSizes(t *testing.T) {
	for size := 75; size <= 400; size++ {
		s := `ann 1 1 k x 0 * "` + long(size-18) + `"`
		if size <= 100 {
			wantCall(t, "a size", s, one("ann", 1, create("x", long(size-18), "")))
		} else {
			wantNoCall(t, "a size", s)
		}
	}
	for _, piece := range []string{" ", "\n", "a", "0", `"`, `\`, "*", `ann 1 1 k x 0 * "`, `ann 1 1 k x 0 * ""`, "\xff"} {
		for _, size := range []int{99, 100, 101, 1000, 1000000} {
			s := strings.Repeat(piece, size/len(piece)+1)[:size]
			wantNoCall(t, "long", s)
			wantNoCall(t, "long, behind a beginning", `ann 1 1 k x 0 * "`+s)
			wantNoCall(t, "long, behind a form", `ann 1 1 k x 0 * ""`+s)
		}
	}
	for zeros := range 90 {
		wantNoCall(t, "zeros", "ann "+strings.Repeat("0", zeros+1)+`1 1 k x 0 * ""`)
		wantNoCall(t, "digits", "ann 1"+strings.Repeat("0", zeros+7)+` 1 k x 0 * ""`)
	}
}

// Promise 23: each byte taken out, each byte put in and changed at every place.
func TestPromise23OneByteChanged(t *testing.T) {
	count := readCount{}
	for _, form := range callForms() {
		for i := range len(form) + 1 {
			for c := range 256 {
				count.seeCall(t, "put in", form[:i]+string([]byte{byte(c)})+form[i:])
				if i < len(form) && form[i] != byte(c) {
					count.seeCall(t, "changed", form[:i]+string([]byte{byte(c)})+form[i+1:])
				}
			}
			wantNoCall(t, "cut off", form[:min(i, len(form)-1)])
			if i < len(form) {
				count.seeCall(t, "taken out", form[:i]+form[i+1:])
			}
		}
	}
	count.wantBoth(t, 5000, 100000)
}

// Promise 23, of texts that are drawn, and forms or nearly so.
func TestPromise23NothingElse(t *testing.T) {
	dice := rand.New(rand.NewSource(24))
	count := readCount{}
	for range 20000 {
		c := drawCall(dice)
		count.seeCall(t, "drawn", rawCall(c))
		for range 3 {
			count.seeCall(t, "scratched", scratched(dice, rawCall(c)))
		}
		if t.Failed() {
			t.Fatalf("%+v", c)
		}
	}
	count.wantBoth(t, 10000, 30000)
}

// Promise 23, of texts put together from pieces of forms.
func TestPromise23Pieces(t *testing.T) {
	dice := rand.New(rand.NewSource(25))
	count := readCount{}
	for range 200000 {
		fields := []string{oneOf(dice, "a", "ann", "A"), oneOf(dice, "1", "12", "1000000", "0", "01"), oneOf(dice, "1", "2", "3", "4", "5", "6"), oneOf(dice, "k", "0", "*"), oneOf(dice, "x", "-", ""),
			oneOf(dice, "0", "7", "1000000", "1000001"), oneOf(dice, "*", "h", "-"), oneOf(dice, `""`, `"t"`, `"\0a "`, `"\41"`, `"`)}
		count.seeCall(t, "pieces", strings.Join(fields, " "))
	}
	count.wantBoth(t, 3000, 50000)
}
