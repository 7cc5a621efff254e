package script

import (
	"bytes"
	"fmt"
	"strings"
	"testing"
)

// signs: of a byte, by the words of the chapter.
func signs(c byte) string {
	switch {
	case c == 10:
		return `\n`
	case c == 0x22:
		return `\"`
	case c == 0x5c:
		return `\\`
	case c < 0x20 || c > 0x7e:
		return fmt.Sprintf(`\x%02x`, c)
	}
	return string(rune(c))
}

// quoted: of several bytes.
func quoted(data []byte) string {
	var out strings.Builder
	for _, c := range data {
		out.WriteString(signs(c))
	}
	return `"` + out.String() + `"`
}

// byDigits: likewise, of which each is written by x.
func byDigits(data []byte) string {
	var out strings.Builder
	for _, c := range data {
		fmt.Fprintf(&out, `\x%02x`, c)
	}
	return `"` + out.String() + `"`
}

// all: each byte there is.
func all() []byte {
	list := make([]byte, 256)
	for c := range list {
		list[c] = byte(c)
	}
	return list
}

// reads: a text is just of these bytes.
func reads(t *testing.T, s string, want []byte) {
	t.Helper()
	if got, ok := Unquote(s); !ok || !bytes.Equal(got, want) {
		t.Errorf("Unquote(%.80q): %.80q, %v, not %.80q", s, got, ok, want)
	}
}

// none: a text is of no bytes.
func none(t *testing.T, s string) {
	t.Helper()
	if got, ok := Unquote(s); ok || len(got) != 0 {
		t.Errorf("Unquote(%.80q): %.80q, %v", s, got, ok)
	}
}

// P24.1: texts that are known from elsewhere.
func TestQuote(t *testing.T) {
	for _, c := range []struct {
		data []byte
		want string
	}{
		{nil, `""`},
		{[]byte{}, `""`},
		{[]byte("hello"), `"hello"`},
		{[]byte(" "), `" "`},
		{[]byte("~"), `"~"`},
		{[]byte{0x1f}, `"\x1f"`},
		{[]byte{0x7f}, `"\x7f"`},
		{[]byte{0x80}, `"\x80"`},
		{[]byte{0}, `"\x00"`},
		{[]byte{0xff}, `"\xff"`},
		{[]byte{9}, `"\x09"`},
		{[]byte{10}, `"\n"`},
		{[]byte{13}, `"\x0d"`},
		{[]byte{0x22}, `"\""`},
		{[]byte{0x5c}, `"\\"`},
		{[]byte("'"), `"'"`},
		{[]byte("a\"b\\c\nd\te"), `"a\"b\\c\nd\x09e"`},
		{[]byte(`\n`), `"\\n"`},
		{[]byte(`\x41`), `"\\x41"`},
		{[]byte{0xab, 0xCD, 0xef, 0x0a, 0xa0}, `"\xab\xcd\xef\n\xa0"`},
		{[]byte("\u00e9"), `"\xc3\xa9"`},
		{[]byte{0x93, 0, 0x50, 0}, `"\x93\x00P\x00"`},
	} {
		if got := Quote(c.data); got != c.want {
			t.Errorf("Quote(%q): %s, not %s", c.data, got, c.want)
		}
		reads(t, c.want, c.data)
	}
}

// P24.1: each byte alone, and beside others; each of them by x, too.
func TestEachByte(t *testing.T) {
	for _, c := range all() {
		for _, data := range [][]byte{{c}, {c, c}, {'n', c, 'x'}, {c, '4', '1'}, {'\\', c}, {'"', c, '"'}} {
			if got := Quote(data); got != quoted(data) {
				t.Errorf("Quote(%q): %s, not %s", data, got, quoted(data))
			}
			reads(t, quoted(data), data)
			reads(t, byDigits(data), data)
		}
	}
	long := bytes.Repeat(all(), 300)
	if Quote(all()) != quoted(all()) || Quote(long) != quoted(long) {
		t.Errorf("Quote of many bytes isn't as it should be")
	}
	reads(t, quoted(long), long)
	reads(t, byDigits(long), long)
}

// P24.1: some bytes by x, and some as Quote writes them.
func TestUnquoteOfBoth(t *testing.T) {
	reads(t, `"\x41B\x43"`, []byte("ABC"))
	reads(t, `"\x0a\n\x22\"\x5c\\\x20 \x7e~"`, []byte("\n\n\"\"\\\\  ~~"))
	reads(t, `"\x5cn"`, []byte(`\n`))
	reads(t, `"\\x41"`, []byte(`\x41`))
	reads(t, `"\x410"`, []byte("A0"))
	reads(t, `"\x4141"`, []byte("A41"))
}

// P24.1: what isn't written so.
func TestUnquoteOfNone(t *testing.T) {
	for _, s := range []string{
		"", `"`, " ", "a", "abc", `abc"`, `"abc`, `a"`, `"a`, `""a`, `"" `, ` ""`, "\"\"\n", "\"\"\r", "\"\"\t", `"a" `, ` "a"`, `"a"b`, `"a"b"`, `"a" "b"`, `"""`, `""""`, `"a"""`,
		`'a'`, "`a`", `"a'`, "\u201ca\u201d",
		`"\"`, `"a\"`, `"\\\"`, `"\`, `"\x"`, `"\x4"`, `"\x41`, `"\x"41"`, `"\x4"1"`, `"\x4`, `"\x`, `"\x\x41"`, `"\x4\x41"`, `"\x4g"`, `"\xg4"`, `"\x 4"`, `"\x4 "`, `"\x-1"`, `"\x+1"`, `"\x0x41"`,
		`"\X41"`, `"\xAB"`, `"\xaB"`, `"\xAb"`, `"\xF0"`, `"\x0F"`, `"\N"`, `"\t"`, `"\r"`, `"\0"`, `"\a"`, `"\'"`, `"\ "`, `"\u0041"`, `"\101"`, `"\/"`,
		"\"\n\"", "\"a\nb\"", "\"\\\n\"", "\"\r\"", "\"\t\"", "\"\x00\"", "\"\x1f\"", "\"\x7f\"", "\"\x80\"", "\"\xff\"", "\"\u00e9\"", "\"a\x00\"", "\"\x7fa\"",
		`a""`, `x41`, `\x41`, `\"\"`, `\""`,
	} {
		none(t, s)
	}
	none(t, `"`+strings.Repeat("a", 70000))
	none(t, `"`+strings.Repeat(`\\`, 70000)+`\"`)
	none(t, `"`+strings.Repeat("a", 70000)+"\x00"+`"`)
}

// P24.1: each byte bare between the marks; each behind a stroke; each as a digit.
func TestUnquoteOfEachByte(t *testing.T) {
	for _, c := range all() {
		one := string([]byte{c})
		if c >= 0x20 && c <= 0x7e && c != '"' && c != '\\' {
			reads(t, `"`+one+`"`, []byte{c})
			reads(t, `"a`+one+`b"`, []byte{'a', c, 'b'})
		} else {
			none(t, `"`+one+`"`)
			if c != '\\' {
				none(t, `"a`+one+`b"`)
			}
		}
		switch c {
		case '"', '\\':
			reads(t, `"\`+one+`"`, []byte{c})
		case 'n':
			reads(t, `"\`+one+`"`, []byte{10})
		default:
			none(t, `"\`+one+`"`)
		}
		if c == 'x' {
			reads(t, `"\`+one+`41"`, []byte{0x41})
		} else if c == '"' || c == '\\' || c == 'n' {
			reads(t, `"\`+one+`41"`, []byte{signed(c), '4', '1'})
		} else {
			none(t, `"\`+one+`41"`)
		}
		if digit := strings.Index("0123456789abcdef", one); digit >= 0 {
			reads(t, `"\x`+one+`7"`, []byte{byte(digit<<4 + 7)})
			reads(t, `"\x7`+one+`"`, []byte{byte(7<<4 + digit)})
		} else {
			none(t, `"\x`+one+`7"`)
			none(t, `"\x7`+one+`"`)
		}
		// Ahead of the first mark, and behind the last one, none stands.
		none(t, one+`"a"`)
		none(t, `"a"`+one)
	}
}

// signed: the byte for which this one stands behind a stroke.
func signed(c byte) byte {
	if c == 'n' {
		return 10
	}
	return c
}
