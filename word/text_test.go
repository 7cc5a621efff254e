package word

import (
	"math"
	"strings"
	"testing"
)

// P1.5

func TestHex(t *testing.T) {
	for _, c := range []struct {
		w    uint64
		want string
	}{
		{0, "0x0"}, {9, "0x9"}, {10, "0xa"}, {15, "0xf"}, {16, "0x10"}, {0x80000004, "0x80000004"},
		{0xfedcba9876543210, "0xfedcba9876543210"}, {math.MaxUint64, "0xffffffffffffffff"},
	} {
		if got := Hex(c.w); got != c.want {
			t.Errorf("Hex(%d): %q, not %q", c.w, got, c.want)
		}
	}
}

func TestDec(t *testing.T) {
	for _, c := range []struct {
		n    int64
		want string
	}{
		{0, "0"}, {7, "7"}, {-1, "-1"}, {10, "10"}, {-4096, "-4096"},
		{math.MaxInt64, "9223372036854775807"}, {math.MinInt64, "-9223372036854775808"},
	} {
		if got := Dec(c.n); got != c.want {
			t.Errorf("Dec(%d): %q, not %q", c.n, got, c.want)
		}
	}
}

func TestParse(t *testing.T) {
	for _, c := range []struct {
		s    string
		want uint64
	}{
		{"0", 0}, {"7", 7}, {"42", 42}, {"007", 7}, {"0x0", 0}, {"0xf", 15}, {"0x10", 16}, {"0x0010", 16},
		{"0x123456789abcdef0", 0x123456789abcdef0}, {"1234567890", 1234567890},
		{"18446744073709551615", math.MaxUint64}, {"0xffffffffffffffff", math.MaxUint64},
		{"0000000000000000000018446744073709551615", math.MaxUint64}, {"0x0000ffffffffffffffff", math.MaxUint64},
		{strings.Repeat("0", 5000) + "5", 5}, {"0x" + strings.Repeat("0", 5000) + "5", 5},
	} {
		if got, ok := Parse(c.s); got != c.want || !ok {
			t.Errorf("Parse(%q): %d, %v", c.s, got, ok)
		}
	}
}

// What neither Parse nor ParseInt reads, with nothing ahead and with - ahead.
func noNumbers() []string {
	return []string{
		"", "-", "--1", "+1", "+", "x", "0x", "0X10", "x10", "0xg", "0x1g", "0x-1", "0x+1", "0xF", "0xA1", "0xaF", "0x0x1", "00x1",
		"a", "f", "1a", "12e", " 1", "1 ", "0 x1", "\t1", "1\n", "1.", "1.0", "1e3", "1_0", "0x1_0", "_1", "0b1", "0o7", "0b", "1:", "1/", "0x1`", "0x1@",
		"18446744073709551616", "18446744073709551620", "18446744073709551625", "99999999999999999999", "184467440737095516150",
		"0x10000000000000000", "0xfffffffffffffffff", "0xffffffffffffffff0",
		"\x00", "1\x00", "\xff", "0x\xff", "1\x801", "\u0661", "\uff11", "0x\uff41", "\u22121",
		strings.Repeat("9", 5000), "0x1" + strings.Repeat("0", 5000),
	}
}

func TestParseOfNoNumber(t *testing.T) {
	for _, s := range append(noNumbers(), "-1", "-0", "-0x1") {
		if got, ok := Parse(s); got != 0 || ok {
			t.Errorf("Parse(%q): %d, %v", s, got, ok)
		}
	}
}

// Each byte there is, as a digit: just those of the base are read.
func TestParseOfEachByte(t *testing.T) {
	for c := range 256 {
		text := string([]byte{byte(c)})
		dec := strings.Index("0123456789", text)
		if got, ok := Parse("1" + text); ok != (dec >= 0) || ok && got != uint64(10+dec) || !ok && got != 0 {
			t.Errorf("Parse(%q): %d, %v", "1"+text, got, ok)
		}
		hex := strings.Index("0123456789abcdef", text)
		if got, ok := Parse("0x1" + text); ok != (hex >= 0) || ok && got != uint64(16+hex) || !ok && got != 0 {
			t.Errorf("Parse(%q): %d, %v", "0x1"+text, got, ok)
		}
	}
}

func TestParseInt(t *testing.T) {
	for _, c := range []struct {
		s    string
		want int64
	}{
		{"0", 0}, {"-0", 0}, {"-0x0", 0}, {"7", 7}, {"-7", -7}, {"-007", -7}, {"0x7f", 127}, {"-0x80", -128},
		{"9223372036854775807", math.MaxInt64}, {"0x7fffffffffffffff", math.MaxInt64},
		{"-9223372036854775807", -math.MaxInt64}, {"-9223372036854775808", math.MinInt64}, {"-0x8000000000000000", math.MinInt64},
	} {
		if got, ok := ParseInt(c.s); got != c.want || !ok {
			t.Errorf("ParseInt(%q): %d, %v", c.s, got, ok)
		}
	}
}

func TestParseIntOfNoNumber(t *testing.T) {
	list := []string{
		"9223372036854775808", "0x8000000000000000", "18446744073709551615", "0xffffffffffffffff",
		"-9223372036854775809", "-0x8000000000000001", "-18446744073709551615", "-0xffffffffffffffff",
		"-18446744073709551616", "-0x10000000000000000", "0-1", "1-", "- 1", "-+1", "0x-1",
	}
	for _, s := range noNumbers() {
		list = append(list, s, "-"+s)
	}
	for _, s := range list {
		if got, ok := ParseInt(s); got != 0 || ok {
			t.Errorf("ParseInt(%q): %d, %v", s, got, ok)
		}
	}
}

// P1.6

func TestThereAndBack(t *testing.T) {
	for _, w := range someWords() {
		if got := Of(Bytes(w, 8)...); got != w {
			t.Errorf("Of of Bytes of %#x: %#x", w, got)
		}
		if got, ok := Parse(Hex(w)); got != w || !ok {
			t.Errorf("Parse of Hex of %#x: %#x, %v", w, got, ok)
		}
		n := int64(w)
		if got, ok := ParseInt(Dec(n)); got != n || !ok {
			t.Errorf("ParseInt of Dec of %d: %d, %v", n, got, ok)
		}
	}
}
