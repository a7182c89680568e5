package tests

import (
	"bytes"
	"fmt"
	"math"
	"math/big"
	"slices"
	"strings"
	"testing"

	"loop.example/g01265/impl"
)

// textsOver returns all texts of at most most bytes that consist of the bytes of signs.
func textsOver(signs string, most int) []string {
	all := []string{""}
	last := all
	for range most {
		var longer []string
		for _, s := range last {
			for i := range len(signs) {
				longer = append(longer, s+signs[i:i+1])
			}
		}
		all = append(all, longer...)
		last = longer
	}
	return all
}

// allBytes returns a text that has each byte but `#` once.
func allBytes() string {
	var b []byte
	for c := range 256 {
		if c != '#' {
			b = append(b, byte(c))
		}
	}
	return string(b)
}

// sumOf is the checksum by its definition, with numbers of any size and one remainder at the end.
func sumOf(s string) int {
	h := big.NewInt(7)
	for i := range len(s) {
		h.Mul(h, big.NewInt(41))
		h.Add(h, big.NewInt(int64(s[i])+1))
	}
	return int(h.Mod(h, big.NewInt(999979)).Int64())
}

// sealedByHand appends the checksum without any of the conditions of AppendChecksum.
func sealedByHand(s string) string {
	return s + "#" + fmt.Sprint(sumOf(s))
}

func TestFormatInt(t *testing.T) {
	for n, want := range map[int]string{
		0: "0", 1: "1", -1: "-1", 9: "9", 10: "10", -12: "-12", 100: "100", -100: "-100",
		impl.MaxDecimal: "999999", -impl.MaxDecimal: "-999999", impl.MaxDecimal - 1: "999998",
	} {
		if s, ok := impl.FormatInt(n); !ok || s != want {
			t.Errorf("FormatInt(%d) = %q, %v", n, s, ok)
		}
	}
	for _, n := range []int{
		impl.MaxDecimal + 1, -impl.MaxDecimal - 1, 9999999, math.MaxInt, math.MinInt, math.MinInt + 1, 1 << 32,
	} {
		if s, ok := impl.FormatInt(n); ok || s != "" {
			t.Errorf("FormatInt(%d) = %q, %v", n, s, ok)
		}
	}
}

func TestLimits(t *testing.T) {
	if impl.MaxString != 4000 || impl.MaxDecimal != 999999 {
		t.Error("limits", impl.MaxString, impl.MaxDecimal)
	}
}

func TestNumbersLeadBack(t *testing.T) {
	for n := -impl.MaxDecimal; n <= impl.MaxDecimal; n++ {
		s, ok := impl.FormatInt(n)
		m, fine := impl.ParseInt(s)
		if !ok || !fine || m != n {
			t.Fatalf("%d is written %q, %v and read %d, %v", n, s, ok, m, fine)
		}
	}
}

func TestParseIntOfNoNumbers(t *testing.T) {
	for _, s := range []string{
		"", "-", "+", "-0", "+0", "00", "000", "01", "-01", "007", "0000000", "+1", "+999999", "--1", "-+1", "+-1",
		" 1", "1 ", "1\n", "\t1", "1\x00", "\x001", "- 1", "1-", "1x", "x1", "0x1", "0b1", "1e3", "1.0", "1,000",
		"1_000", "\u0661", "\uff11", "\u22121", "1000000", "-1000000", "9999999", "0999999", "-0999999", "1000001",
		"9223372036854775807", "-9223372036854775808", "18446744073709551617", "4294967297", "-4294967295",
		strings.Repeat("0", 5000) + "1", strings.Repeat("9", 1<<20),
	} {
		if n, ok := impl.ParseInt(s); ok || n != 0 {
			t.Errorf("ParseInt(%.30q) = %d, %v", s, n, ok)
		}
	}
}

func TestParseIntReadsJustWhatIsWritten(t *testing.T) {
	written := map[string]int{}
	for n := -9999; n <= 99999; n++ {
		written[fmt.Sprint(n)] = n
	}
	for _, s := range textsOver("+-0129 _", 5) {
		want, is := written[s]
		if n, ok := impl.ParseInt(s); ok != is || n != want {
			t.Fatalf("ParseInt(%q) = %d, %v", s, n, ok)
		}
	}
}

func TestSplitString(t *testing.T) {
	for _, x := range []struct {
		s, sep string
		want   []string
	}{
		{"a,,b", ",", []string{"a", "", "b"}},
		{"", ",", []string{""}},
		{",", ",", []string{"", ""}},
		{",,,", ",", []string{"", "", "", ""}},
		{",a", ",", []string{"", "a"}},
		{"a,", ",", []string{"a", ""}},
		{"abc", ",", []string{"abc"}},
		{"abc", "b", []string{"a", "c"}},
		{"a b\nc d", "\n", []string{"a b", "c d"}},
		{"a\x00b", "\x00", []string{"a", "b"}},
		{"a\xffb\xff", "\xff", []string{"a", "b", ""}},
		{"\u00e9", "\xc3", []string{"", "\xa9"}},
		{"\u00e9", "\xa9", []string{"\xc3", ""}},
		{"\ufffd\xff", "\xff", []string{"\ufffd", ""}},
	} {
		if l, ok := impl.SplitString(x.s, x.sep); !ok || !slices.Equal(l, x.want) {
			t.Errorf("SplitString(%q, %q) = %q, %v", x.s, x.sep, l, ok)
		}
	}
}

func TestSplitStringFails(t *testing.T) {
	long := strings.Repeat("a", impl.MaxString+1)
	for _, x := range [][2]string{
		{"a,b", ""}, {"", ""}, {"a,,b", ",,"}, {"", ",,"}, {"a\u00e9b", "\u00e9"}, {"a", long},
		{long, ","}, {strings.Repeat(",", impl.MaxString+1), ","}, {strings.Repeat("a,", 1<<19), ","}, {long, ""},
	} {
		if l, ok := impl.SplitString(x[0], x[1]); ok || len(l) != 0 {
			t.Errorf("SplitString(%.20q, %.20q) has %d parts, %v", x[0], x[1], len(l), ok)
		}
	}
}

func TestSplitStringOfLongestTexts(t *testing.T) {
	if l, ok := impl.SplitString(strings.Repeat("a", impl.MaxString), ","); !ok || len(l) != 1 || len(l[0]) != impl.MaxString {
		t.Error("one part", len(l), ok)
	}
	l, ok := impl.SplitString(strings.Repeat(",", impl.MaxString), ",")
	if !ok || len(l) != impl.MaxString+1 || slices.ContainsFunc(l, func(s string) bool { return s != "" }) {
		t.Error("empty parts", len(l), ok)
	}
}

func TestJoinStrings(t *testing.T) {
	for _, x := range []struct {
		parts []string
		sep   string
		want  string
	}{
		{[]string{"a", "", "b"}, ";", "a;;b"},
		{[]string{""}, ";", ""},
		{[]string{"", ""}, ";", ";"},
		{[]string{"abc"}, ";", "abc"},
		{[]string{"a,b", "c,d"}, ";", "a,b;c,d"},
		{[]string{"a", "b"}, "\x00", "a\x00b"},
		{[]string{"a", "b"}, "\xff", "a\xffb"},
		{[]string{"\u00e9", "\ufffd"}, "\xff", "\u00e9\xff\ufffd"},
	} {
		if s, ok := impl.JoinStrings(x.parts, x.sep); !ok || s != x.want {
			t.Errorf("JoinStrings(%q, %q) = %q, %v", x.parts, x.sep, s, ok)
		}
	}
}

func TestJoinStringsFails(t *testing.T) {
	for _, x := range []struct {
		parts []string
		sep   string
	}{
		{nil, ";"}, {[]string{}, ";"}, {nil, ""},
		{[]string{"a", "b"}, ""}, {[]string{"a"}, ""}, {[]string{""}, ""},
		{[]string{"a", "b"}, ";;"}, {[]string{"a"}, ";;"}, {[]string{"a", "b"}, "\u00e9"},
		{[]string{";"}, ";"}, {[]string{"a;b"}, ";"}, {[]string{";a", "b"}, ";"}, {[]string{"a;", "b"}, ";"},
		{[]string{"a", "b;"}, ";"}, {[]string{"a", ";b", "c"}, ";"}, {[]string{"", "", ";"}, ";"},
		{[]string{"a", "\u00e9"}, "\xc3"}, {[]string{"a", "\u00e9"}, "\xa9"},
	} {
		if s, ok := impl.JoinStrings(x.parts, x.sep); ok || s != "" {
			t.Errorf("JoinStrings(%q, %q) = %q, %v", x.parts, x.sep, s, ok)
		}
	}
}

func TestJoinStringsUpToTheLimit(t *testing.T) {
	a := func(n int) string { return strings.Repeat("a", n) }
	for _, x := range []struct {
		parts []string
		size  int
	}{
		{[]string{a(impl.MaxString)}, impl.MaxString},
		{[]string{a(impl.MaxString + 1)}, -1},
		{[]string{a(2000), a(1999)}, impl.MaxString},
		{[]string{a(2000), a(2000)}, -1},
		{[]string{a(impl.MaxString - 1), ""}, impl.MaxString},
		{[]string{a(impl.MaxString), ""}, -1},
		{[]string{"", a(impl.MaxString)}, -1},
		{make([]string, impl.MaxString+1), impl.MaxString},
		{make([]string, impl.MaxString+2), -1},
		{make([]string, 1<<20), -1},
		{slices.Repeat([]string{a(1 << 20)}, 1000), -1},
	} {
		s, ok := impl.JoinStrings(x.parts, ";")
		if ok != (x.size >= 0) || len(s) != max(x.size, 0) {
			t.Errorf("%d parts: %d bytes, %v, not %d", len(x.parts), len(s), ok, x.size)
		}
	}
}

func TestTextsLeadBackFromTheirParts(t *testing.T) {
	texts := append(textsOver("a,;\xff", 6), allBytes(), strings.Repeat("a,;", 1333), strings.Repeat(",", impl.MaxString))
	for _, s := range texts {
		for _, sep := range []string{",", ";", "a", "\xff", "\x00"} {
			l, ok := impl.SplitString(s, sep)
			if !ok || len(l) != strings.Count(s, sep)+1 {
				t.Fatalf("%.30q split at %q: %d parts, %v", s, sep, len(l), ok)
			}
			if back, ok := impl.JoinStrings(l, sep); !ok || back != s {
				t.Fatalf("%.30q split at %q: joined %.30q, %v", s, sep, back, ok)
			}
		}
	}
}

func TestPartsLeadBackFromTheirText(t *testing.T) {
	elements := []string{"", "a", "b,", ",", "cd"}
	for _, a := range elements {
		for _, b := range elements {
			for _, c := range elements {
				parts := []string{a, b, c}
				s, ok := impl.JoinStrings(parts, ";")
				l, fine := impl.SplitString(s, ";")
				if !ok || !fine || !slices.Equal(l, parts) {
					t.Fatalf("%q joined %q, split %q", parts, s, l)
				}
				if _, ok := impl.JoinStrings(parts, ","); ok == strings.Contains(a+b+c, ",") {
					t.Fatalf("%q joined with a sign within", parts)
				}
			}
		}
	}
}

func TestLessString(t *testing.T) {
	for _, x := range []struct {
		a, b string
		want bool
	}{
		{"a", "ab", true}, {"ab", "a", false}, {"", "a", true}, {"a", "", false}, {"", "", false}, {"a", "a", false},
		{"b", "ab", false}, {"ab", "b", true}, {"B", "a", true}, {"10", "9", true}, {"", "\x00", true},
		{"a", "a\x00", true}, {"z", "\u00e9", true}, {"\x7f", "\x80", true}, {"\xff", "\x00", false},
		{"\ufffd", "\xff", true}, {"\ue000", "\U00010000", true}, {"\xff", "\ufffd", false},
	} {
		if got := impl.LessString(x.a, x.b); got != x.want {
			t.Errorf("LessString(%q, %q) = %v", x.a, x.b, got)
		}
	}
	texts := textsOver("\x00a\x80\xff", 3)
	for _, a := range texts {
		for _, b := range texts {
			if impl.LessString(a, b) != (bytes.Compare([]byte(a), []byte(b)) < 0) {
				t.Fatalf("LessString(%q, %q)", a, b)
			}
		}
	}
}

func TestLessStringOfLongTexts(t *testing.T) {
	long := strings.Repeat("a", 1<<20)
	if !impl.LessString(long, long+"a") || impl.LessString(long+"a", long) || !impl.LessString(long+"a", long+"b") {
		t.Error("texts that are longer than MaxString")
	}
}

func TestChecksum(t *testing.T) {
	for s, want := range map[string]int{
		"": 7, "a": 385, "ab": 15884, "ba": 15924, "\x00": 288, "\xff": 543, "zzz": 694376, "zzzz": 470127,
	} {
		if n, ok := impl.Checksum(s); !ok || n != want {
			t.Errorf("Checksum(%q) = %d, %v", s, n, ok)
		}
	}
	for _, s := range []string{"#", "a#385", allBytes(), strings.Repeat("\xff", impl.MaxString), strings.Repeat("\x00", impl.MaxString-1)} {
		if n, ok := impl.Checksum(s); !ok || n != sumOf(s) {
			t.Errorf("Checksum(%.20q) = %d, %v", s, n, ok)
		}
	}
	for _, size := range []int{impl.MaxString + 1, 1 << 20} {
		if n, ok := impl.Checksum(strings.Repeat("a", size)); ok || n != 0 {
			t.Errorf("Checksum of %d bytes = %d, %v", size, n, ok)
		}
	}
}

func TestAppendChecksum(t *testing.T) {
	for s, want := range map[string]string{"": "#7", "a": "a#385", "ab": "ab#15884", "\x00": "\x00#288", "a b@c\n": sealedByHand("a b@c\n")} {
		if got, ok := impl.AppendChecksum(s); !ok || got != want {
			t.Errorf("AppendChecksum(%q) = %q, %v", s, got, ok)
		}
	}
	for _, s := range []string{"#", "a#", "#a", "a#b", "a#385", "##"} {
		if got, ok := impl.AppendChecksum(s); ok || got != "" {
			t.Errorf("AppendChecksum(%q) = %q, %v", s, got, ok)
		}
	}
}

// ofSize returns a text of so many bytes whose checksum has so many digits.
func ofSize(t *testing.T, size int, digits int) string {
	for i := 1; i < 1000000; i++ {
		s := fmt.Sprint(i)
		if s = strings.Repeat("a", size-len(s)) + s; len(fmt.Sprint(sum(t, s))) == digits {
			return s
		}
	}
	t.Fatal("no text of", size, digits)
	return ""
}

func sum(t *testing.T, s string) int {
	n, ok := impl.Checksum(s)
	if !ok {
		t.Fatalf("Checksum of %d bytes fails", len(s))
	}
	return n
}

func TestAppendChecksumUpToTheLimit(t *testing.T) {
	for _, x := range []struct {
		size, digits int
		want         bool
	}{
		{3992, 6, true}, {3993, 6, true}, {3994, 6, false}, {3994, 5, true}, {3995, 5, false},
		{3995, 4, true}, {3996, 4, false}, {3999, 6, false}, {4000, 6, false},
	} {
		s := ofSize(t, x.size, x.digits)
		got, ok := impl.AppendChecksum(s)
		if ok != x.want || ok && got != sealedByHand(s) || !ok && got != "" {
			t.Error(x, len(got), ok)
		}
		back, fine := impl.VerifyChecksum(sealedByHand(s))
		if fine != x.want || fine && back != s || !fine && back != "" {
			t.Error(x, "opened:", len(back), fine)
		}
	}
	for _, size := range []int{4001, 5000, 1 << 20} {
		if got, ok := impl.AppendChecksum(strings.Repeat("a", size)); ok || got != "" {
			t.Error(size, len(got), ok)
		}
	}
}

func TestVerifyChecksum(t *testing.T) {
	texts := append(textsOver("ab\x00\xff7", 4), allBytes(), strings.Repeat("a", 3990))
	for _, s := range texts {
		sealed, ok := impl.AppendChecksum(s)
		back, fine := impl.VerifyChecksum(sealed)
		if !ok || !fine || back != s {
			t.Fatalf("%.20q is sealed %.20q, %v and opened %.20q, %v", s, sealed, ok, back, fine)
		}
	}
}

func TestVerifyChecksumFails(t *testing.T) {
	for _, s := range []string{
		"", "#", "##", "#0", "#8", "#07", "#+7", "#-7", "#7 ", "# 7", "#7\n", "#7#", "##7", "#7#7", "#999986",
		"a", "a#", "a#384", "a#386", "a#0385", "a#+385", "a#38", "a#3855", "a#385#", "a#385#385", "a##385", "a385",
		"b#385", "#385", "aa#385", "a#385\x00", "a#1000364", "a#-999594", "a#18446744073709552001", "385#a",
		sealedByHand("a#"), sealedByHand("#"), sealedByHand("a#b"), sealedByHand("a#385"), sealedByHand(strings.Repeat("a", 4001)),
		sealedByHand(strings.Repeat("a", 100000)), strings.Repeat("#", 1<<20),
	} {
		if x, ok := impl.VerifyChecksum(s); ok || x != "" {
			t.Errorf("VerifyChecksum(%.30q) = %.30q, %v", s, x, ok)
		}
	}
}

// detects reports whether sealed fails with the byte at place i made c.
func detects(sealed []byte, i int, c byte) bool {
	kept := sealed[i]
	sealed[i] = c
	s, ok := impl.VerifyChecksum(string(sealed))
	sealed[i] = kept
	return !ok && s == ""
}

func TestEachChangedByteIsDetected(t *testing.T) {
	for _, s := range []string{"", "a", "7", "\x00", "\xff\xff", "0 show 3 4@abc abd", "zzzz", allBytes()} {
		sealed, _ := impl.AppendChecksum(s)
		b := []byte(sealed)
		for i := range b {
			for c := range 256 {
				if byte(c) != sealed[i] && !detects(b, i, byte(c)) {
					t.Fatalf("%q with the byte %d at %d is opened", sealed, c, i)
				}
			}
		}
	}
}

func TestEachChangedByteOfALongTextIsDetected(t *testing.T) {
	for _, s := range []string{ofSize(t, 3993, 6), strings.Repeat("\xff", 2000)} {
		sealed, _ := impl.AppendChecksum(s)
		b := []byte(sealed)
		for i := range b {
			for _, by := range []byte{1, 2, 77, 128, 255, '#' - sealed[i]} {
				if by != 0 && !detects(b, i, sealed[i]+by) {
					t.Fatalf("a text of %d bytes with another byte at %d is opened", len(b), i)
				}
			}
		}
	}
}

func TestArgumentsOfStringsAreNotModified(t *testing.T) {
	parts := []string{"a", "", "b", "c"}
	kept := slices.Clone(parts)
	for _, sep := range []string{";", "b", "", ";;"} {
		impl.JoinStrings(parts, sep)
		impl.JoinStrings(parts[:2], sep)
	}
	if !slices.Equal(parts, kept) {
		t.Error("parts are", parts)
	}
}

func TestResultsOfStringsStandAlone(t *testing.T) {
	first, _ := impl.SplitString("a,b,c", ",")
	for i := range first {
		first[i] = "x"
	}
	_ = append(first[:0], "y", "y", "y")
	if second, ok := impl.SplitString("a,b,c", ","); !ok || !slices.Equal(second, []string{"a", "b", "c"}) {
		t.Error("a result changed by a caller is given out again:", second)
	}
	failed, _ := impl.SplitString("a", "")
	_ = append(failed, "x")
	if again, ok := impl.SplitString("a", ""); ok || len(again) != 0 {
		t.Error("a failure has parts:", again)
	}
}

// answers returns what all functions of the chapter return for texts, numbers and lists of all sorts.
func answers() []string {
	long := strings.Repeat("a,#", 2000)
	texts := append(textsOver("-0#,\xff", 2), "a#385", "-12", "1000000", allBytes(), long[:4000], long)
	var all []string
	tell := func(x ...any) { all = append(all, fmt.Sprint(x...)) }
	for _, n := range []int{0, 1, -1, 999999, -999999, 1000000, -1000000, math.MaxInt, math.MinInt} {
		s, ok := impl.FormatInt(n)
		tell(s, ok)
	}
	for _, s := range texts {
		n, ok := impl.ParseInt(s)
		sum, fine := impl.Checksum(s)
		tell(n, ok, sum, fine)
		sealed, ok := impl.AppendChecksum(s)
		opened, fine := impl.VerifyChecksum(s)
		tell(sealed, ok, opened, fine)
		for _, sep := range texts {
			l, ok := impl.SplitString(s, sep)
			joined, fine := impl.JoinStrings([]string{s, sep, s}, sep)
			alone, good := impl.JoinStrings([]string{s}, sep)
			tell(l, ok, joined, fine, alone, good, impl.LessString(s, sep))
		}
	}
	return all
}

func TestStringsReturnTheSameForAllArguments(t *testing.T) {
	if !slices.Equal(answers(), answers()) {
		t.Error("other results for the same arguments")
	}
}
