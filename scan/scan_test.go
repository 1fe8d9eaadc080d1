package scan

import (
	"slices"
	"strings"
	"testing"
)

func TestWords(t *testing.T) {
	for _, c := range []struct {
		line string
		want []string
	}{
		{"", nil},
		{" \t\n\r", nil},
		{"a", []string{"a"}},
		{"\ta  b\r\nc ", []string{"a", "b", "c"}},
		{"a\vb a\fb a\x00b", []string{"a\vb", "a\fb", "a\x00b"}},
		{"a\u00a0b \u2003 \u0085", []string{"a\u00a0b", "\u2003", "\u0085"}},
		{"\xff\x20\xc3\x20\xa9", []string{"\xff", "\xc3", "\xa9"}},
	} {
		if got := Words(c.line); !slices.Equal(got, c.want) {
			t.Errorf("Words(%q) = %q, want %q", c.line, got, c.want)
		}
	}
}

func TestNumber(t *testing.T) {
	for _, c := range []struct {
		word string
		want int
	}{
		{"0", 0}, {"-0", 0}, {"000", 0}, {"7", 7}, {"-7", -7}, {"007", 7}, {"-007", -7},
		{"999999999999999999", 999999999999999999},
		{"-999999999999999999", -999999999999999999},
		{"000000000000000001", 1},
	} {
		if got, ok := Number(c.word); !ok || got != c.want {
			t.Errorf("Number(%q) = %d, %t, want %d", c.word, got, ok, c.want)
		}
	}
	for _, word := range []string{
		"", "-", "--1", "-1-", "1-", "+1", "1a", "a1", "0x1", "1_0", "1.5", "1e3", " 1", "٣", "１", "/", ":",
		"1000000000000000000", "-1000000000000000000", "0000000000000000001",
	} {
		if got, ok := Number(word); ok || got != 0 {
			t.Errorf("Number(%q) = %d, %t, want none", word, got, ok)
		}
	}
}

func TestIsName(t *testing.T) {
	for _, word := range []string{"a", "!", "~", "-", "--1", "1a", "+1", "dup", strings.Repeat("x", 12), "-1234567890a"} {
		if !IsName(word) {
			t.Errorf("IsName(%q) = false", word)
		}
	}
	for _, word := range []string{"", " ", "a b", "1", "-1", "123456789012", strings.Repeat("x", 13), "é", "\x7f", "a\x00", "\xff"} {
		if IsName(word) {
			t.Errorf("IsName(%q) = true", word)
		}
	}
}
