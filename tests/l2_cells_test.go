package tests

import (
	"fmt"
	"math"
	"slices"
	"strings"
	"testing"

	"loop.example/g01265/impl"
)

// digitLetters is the document's table of the digit cells, written out by hand.
var digitLetters = []string{"abcdef", "bc", "abdeg", "abcdg", "bcfg", "acdfg", "acdefg", "abc", "abcdefg", "abcdfg"}

// digitNumbers are the same cells as numbers, a being 1 and g 64.
var digitNumbers = []int{63, 6, 91, 79, 102, 109, 125, 7, 127, 111}

// noCells are numbers that are no cells.
var noCells = []int{-1, -2, -127, -128, 128, 129, 255, 256, 1 << 31, 1 << 32, 1<<32 + 6, math.MaxInt, math.MinInt, math.MinInt + 6}

// noRows are lists that are no rows.
var noRows = [][]int{
	{-1}, {128}, {63, -1}, {-1, 63}, {6, 128, 6}, {0, 0, 0, 0, 0, 128}, {math.MinInt}, {math.MaxInt, 0},
	{0, 0, 0, 0, 0, 0, 0}, {63, 63, 63, 63, 63, 63, 63}, {127, 127, 127, 127, 127, 127, 127, 127}, make([]int, 100000),
}

// noNumbers are numbers that no row shows.
var noNumbers = []int{-1, -5, -999999, 1000000, 1000001, 9999999, 1 << 32, math.MaxInt, math.MinInt}

// lettersOf tells a cell by its letters, of which each stands for its own power of two.
func lettersOf(c int) string {
	text := ""
	for i, letter := range []string{"a", "b", "c", "d", "e", "f", "g"} {
		if c/[]int{1, 2, 4, 8, 16, 32, 64}[i]%2 == 1 {
			text += letter
		}
	}
	return text
}

// exchanged returns the cell whose letters are those of c after the exchange, a pair of letters each time.
func exchanged(c int, pairs ...string) int {
	var change []string
	for _, p := range pairs {
		change = append(change, p[:1], p[1:], p[1:], p[:1])
	}
	letters := strings.NewReplacer(change...).Replace(lettersOf(c))
	cell := 0
	for i, letter := range "abcdefg" {
		if strings.ContainsRune(letters, letter) {
			cell += []int{1, 2, 4, 8, 16, 32, 64}[i]
		}
	}
	return cell
}

func turnedByHand(c int) int   { return exchanged(c, "ad", "be", "cf") }
func mirroredByHand(c int) int { return exchanged(c, "bf", "ce") }

// manyRows returns the empty row, all rows of one cell, and rows of each other length with dark, lit and digit cells.
func manyRows() [][]int {
	rows := [][]int{nil, {}}
	for c := range 128 {
		rows = append(rows, []int{c})
		for size := 2; size <= impl.MaxCells; size++ {
			row := make([]int, size)
			for i := range row {
				row[i] = (c*(i+1) + i*i*i + c*c*size) % 128
			}
			rows = append(rows, row)
		}
	}
	for size := 1; size <= impl.MaxCells; size++ {
		for _, c := range []int{0, 127, 63, 6, 125, 48} {
			rows = append(rows, slices.Repeat([]int{c}, size))
		}
	}
	return rows
}

// backwards returns a list in the opposite order, with each element changed.
func backwards(r []int, change func(int) int) []int {
	var out []int
	for i := len(r) - 1; i >= 0; i-- {
		out = append(out, change(r[i]))
	}
	return out
}

// shownBy returns the row that shows the digits of a text.
func shownBy(digits string) []int {
	var row []int
	for _, d := range digits {
		row = append(row, digitNumbers[d-'0'])
	}
	return row
}

// turnedDigits returns the digits of a text that is turned, and whether all of them show one then.
func turnedDigits(digits string) (string, bool) {
	out := make([]byte, len(digits))
	for i := range len(digits) {
		place := strings.IndexByte("025689", digits[i])
		if place < 0 {
			return "", false
		}
		out[len(digits)-1-i] = "025986"[place]
	}
	return string(out), true
}

func TestLimitsOfCells(t *testing.T) {
	if impl.Bars != 7 || impl.MaxCells != 6 {
		t.Error("limits", impl.Bars, impl.MaxCells)
	}
}

func TestIsCell(t *testing.T) {
	for c := range 128 {
		if !impl.IsCell(c) {
			t.Error("a cell:", c)
		}
	}
	for _, c := range noCells {
		if impl.IsCell(c) {
			t.Error("no cell:", c)
		}
	}
}

func TestIsRow(t *testing.T) {
	for _, r := range manyRows() {
		if !impl.IsRow(r) {
			t.Error("a row:", r)
		}
	}
	for _, r := range noRows {
		if impl.IsRow(r) {
			t.Error("no row:", len(r), r[0])
		}
	}
	for _, c := range noCells {
		for i := range impl.MaxCells {
			r := make([]int, impl.MaxCells)
			r[i] = c
			if impl.IsRow(r) {
				t.Error("no row:", r)
			}
		}
	}
}

func TestCellOf(t *testing.T) {
	for digit, want := range digitNumbers {
		if c, ok := impl.CellOf(digit); !ok || c != want || lettersOf(c) != digitLetters[digit] {
			t.Errorf("CellOf(%d) = %d, %v", digit, c, ok)
		}
	}
	for _, digit := range []int{-1, -9, 10, 11, 48, 1 << 32, math.MaxInt, math.MinInt} {
		if c, ok := impl.CellOf(digit); ok || c != 0 {
			t.Errorf("CellOf(%d) = %d, %v", digit, c, ok)
		}
	}
}

func TestDigitOf(t *testing.T) {
	for c := range 128 {
		want := slices.Index(digitNumbers, c)
		if digit, ok := impl.DigitOf(c); ok != (want >= 0) || digit != max(want, 0) {
			t.Errorf("DigitOf(%d) = %d, %v", c, digit, ok)
		}
	}
	for _, c := range noCells {
		if digit, ok := impl.DigitOf(c); ok || digit != 0 {
			t.Errorf("DigitOf(%d) = %d, %v", c, digit, ok)
		}
	}
}

func TestDigitsLeadBackFromTheirCells(t *testing.T) {
	for digit := range 10 {
		c, _ := impl.CellOf(digit)
		if back, ok := impl.DigitOf(c); !ok || back != digit {
			t.Errorf("%d has the cell %d, which has %d, %v", digit, c, back, ok)
		}
	}
}

func TestBarsOfCells(t *testing.T) {
	for c := range 128 {
		want := lettersOf(c)
		if text, ok := impl.BarsOf(c); !ok || text != want {
			t.Errorf("BarsOf(%d) = %q, %v", c, text, ok)
		}
		if n, ok := impl.CountBars(c); !ok || n != len(want) {
			t.Errorf("CountBars(%d) = %d, %v", c, n, ok)
		}
	}
	for _, c := range noCells {
		if text, ok := impl.BarsOf(c); ok || text != "" {
			t.Errorf("BarsOf(%d) = %q, %v", c, text, ok)
		}
		if n, ok := impl.CountBars(c); ok || n != 0 {
			t.Errorf("CountBars(%d) = %d, %v", c, n, ok)
		}
	}
}

func TestParseBars(t *testing.T) {
	for text, want := range map[string]int{"": 0, "a": 1, "bc": 6, "g": 64, "abcdef": 63, "ag": 65, "abcdefg": 127} {
		if c, ok := impl.ParseBars(text); !ok || c != want {
			t.Errorf("ParseBars(%q) = %d, %v", text, c, ok)
		}
	}
	for _, text := range []string{
		"cb", "ba", "aa", "bb", "gg", "abb", "aab", "aba", "acb", "gfedcba", "abcdegf", "abcdefga", "abcdefgg",
		"-", " ", "h", "A", "ah", "Abc", "a ", " a", "a b", "a-", "-a", "a\n", "\x00", "a\x00", "\x00a", "`", "0", "1",
		"\xff", "a\xff", "a\u00e9", "\u0430", "\uff41", "\ufffd", "\xc1\xa1", "a\xc1\xa2", "\u0161", "\U00010061",
		"abcdefg abcdefg", strings.Repeat("a", 1<<20), "a" + strings.Repeat(" ", 1<<20), strings.Repeat("abcdefg", 1<<18),
	} {
		if c, ok := impl.ParseBars(text); ok || c != 0 {
			t.Errorf("ParseBars(%.20q) = %d, %v", text, c, ok)
		}
	}
}

func TestParseBarsReadsJustWhatIsWritten(t *testing.T) {
	written := map[string]int{}
	for c := range 128 {
		text, _ := impl.BarsOf(c)
		written[text] = c
	}
	if len(written) != 128 {
		t.Fatal("cells with the same bars:", len(written))
	}
	for text, c := range written {
		if back, ok := impl.ParseBars(text); !ok || back != c {
			t.Errorf("ParseBars(%q) = %d, %v", text, back, ok)
		}
	}
	for _, s := range textsOver("abcdefgh- ", 5) {
		want, is := written[s]
		if c, ok := impl.ParseBars(s); ok != is || c != want {
			t.Fatalf("ParseBars(%q) = %d, %v", s, c, ok)
		}
	}
}

func TestFarCells(t *testing.T) {
	for a := range 128 {
		for b := range 128 {
			want := 0
			for _, letter := range "abcdefg" {
				if strings.ContainsRune(lettersOf(a), letter) != strings.ContainsRune(lettersOf(b), letter) {
					want++
				}
			}
			if far, ok := impl.FarCells(a, b); !ok || far != want {
				t.Fatalf("FarCells(%d, %d) = %d, %v", a, b, far, ok)
			}
		}
	}
	for _, c := range append([]int{0}, noCells...) {
		for _, no := range noCells {
			far, ok := impl.FarCells(c, no)
			back, fine := impl.FarCells(no, c)
			if ok || far != 0 || fine || back != 0 {
				t.Errorf("FarCells of %d and %d: %d, %v, %d, %v", c, no, far, ok, back, fine)
			}
		}
	}
}

func TestTurnAndMirrorCell(t *testing.T) {
	for c := range 128 {
		turned, ok := impl.TurnCell(c)
		mirrored, fine := impl.MirrorCell(c)
		if !ok || !fine || turned != turnedByHand(c) || mirrored != mirroredByHand(c) {
			t.Errorf("the cell %d: turned %d, %v, mirrored %d, %v", c, turned, ok, mirrored, fine)
		}
		again, ok := impl.TurnCell(turned)
		back, fine := impl.MirrorCell(mirrored)
		if !ok || !fine || again != c || back != c {
			t.Errorf("the cell %d: turned twice %d, %v, mirrored twice %d, %v", c, again, ok, back, fine)
		}
	}
	for _, c := range noCells {
		turned, ok := impl.TurnCell(c)
		mirrored, fine := impl.MirrorCell(c)
		if ok || fine || turned != 0 || mirrored != 0 {
			t.Errorf("no cell %d: turned %d, %v, mirrored %d, %v", c, turned, ok, mirrored, fine)
		}
	}
}

func TestTurnAndMirrorSingleBars(t *testing.T) {
	for from, to := range map[int][2]int{
		0: {0, 0}, 1: {8, 1}, 2: {16, 32}, 4: {32, 16}, 8: {1, 8}, 16: {2, 4}, 32: {4, 2}, 64: {64, 64}, 127: {127, 127},
		125: {111, 95}, 91: {91, 109}, 6: {48, 48}, 102: {116, 114},
	} {
		turned, ok := impl.TurnCell(from)
		mirrored, fine := impl.MirrorCell(from)
		if !ok || !fine || turned != to[0] || mirrored != to[1] {
			t.Errorf("the cell %d: turned %d, %v, mirrored %d, %v", from, turned, ok, mirrored, fine)
		}
	}
}

func TestCellsAreAsFarTurnedAndMirrored(t *testing.T) {
	for a := range 128 {
		for b := range 128 {
			far, ok := impl.FarCells(a, b)
			for _, move := range []func(int) (int, bool){impl.TurnCell, impl.MirrorCell} {
				c, _ := move(a)
				d, _ := move(b)
				if moved, fine := impl.FarCells(c, d); !ok || !fine || moved != far {
					t.Fatalf("%d and %d are %d far, as %d and %d they are %d", a, b, far, c, d, moved)
				}
			}
		}
	}
}

func TestRowOf(t *testing.T) {
	for n, want := range map[int][]int{
		0: {63}, 1: {6}, 9: {111}, 10: {6, 63}, 40: {102, 63}, 100: {6, 63, 63}, 8888: {127, 127, 127, 127},
		99999: {111, 111, 111, 111, 111}, 100000: {6, 63, 63, 63, 63, 63}, 123456: {6, 91, 79, 102, 109, 125},
		999999: {111, 111, 111, 111, 111, 111}, 700007: {7, 63, 63, 63, 63, 7},
	} {
		if r, ok := impl.RowOf(n); !ok || !slices.Equal(r, want) {
			t.Errorf("RowOf(%d) = %v, %v", n, r, ok)
		}
	}
	for _, n := range noNumbers {
		if r, ok := impl.RowOf(n); ok || len(r) != 0 {
			t.Errorf("RowOf(%d) = %v, %v", n, r, ok)
		}
	}
}

func TestNumbersLeadBackFromTheirRows(t *testing.T) {
	for n := range 1000000 {
		r, ok := impl.RowOf(n)
		back, fine := impl.NumberOf(r)
		if !ok || !fine || back != n || n > 0 && r[0] == 63 {
			t.Fatalf("%d has the row %v, %v, which shows %d, %v", n, r, ok, back, fine)
		}
	}
	for n := 0; n < 1000000; n += 37 {
		if r, ok := impl.RowOf(n); !ok || !slices.Equal(r, shownBy(fmt.Sprint(n))) {
			t.Fatalf("RowOf(%d) = %v, %v", n, r, ok)
		}
	}
}

func TestNumberOfRowsWithZerosThatComeFirst(t *testing.T) {
	for digits, want := range map[string]int{
		"0": 0, "00": 0, "000000": 0, "01": 1, "007": 7, "000001": 1, "010": 10, "099999": 99999, "0203": 203, "999999": 999999,
	} {
		if n, ok := impl.NumberOf(shownBy(digits)); !ok || n != want {
			t.Errorf("NumberOf the row of %s = %d, %v", digits, n, ok)
		}
	}
	for n := range 1000 {
		for size := 3; size <= impl.MaxCells; size++ {
			if back, ok := impl.NumberOf(shownBy(fmt.Sprintf("%0*d", size, n))); !ok || back != n {
				t.Fatalf("NumberOf %d with %d digits = %d, %v", n, size, back, ok)
			}
		}
	}
}

func TestNumberOfRowsThatShowNone(t *testing.T) {
	rows := append([][]int{nil, {}, shownBy("1234567"), shownBy("0000000")}, noRows...)
	for c := range 128 {
		if !slices.Contains(digitNumbers, c) {
			rows = append(rows, []int{c}, []int{c, 63}, []int{63, c}, []int{6, 6, 6, 6, 6, c}, []int{63, 6, c, 6, 63, 6})
		}
	}
	for _, r := range rows {
		if n, ok := impl.NumberOf(r); ok || n != 0 {
			t.Errorf("NumberOf(%.20q) = %d, %v", fmt.Sprint(r), n, ok)
		}
	}
}

func TestTurnAndMirrorRow(t *testing.T) {
	for _, r := range manyRows() {
		turned, ok := impl.TurnRow(r)
		mirrored, fine := impl.MirrorRow(r)
		if !ok || !fine || !slices.Equal(turned, backwards(r, turnedByHand)) || !slices.Equal(mirrored, backwards(r, mirroredByHand)) {
			t.Fatalf("%v turned %v, %v, mirrored %v, %v", r, turned, ok, mirrored, fine)
		}
		again, ok := impl.TurnRow(turned)
		back, fine := impl.MirrorRow(mirrored)
		if !ok || !fine || !slices.Equal(again, r) || !slices.Equal(back, r) {
			t.Fatalf("%v turned twice %v, %v, mirrored twice %v, %v", r, again, ok, back, fine)
		}
	}
	for _, r := range noRows {
		turned, ok := impl.TurnRow(r)
		mirrored, fine := impl.MirrorRow(r)
		if ok || fine || len(turned) != 0 || len(mirrored) != 0 {
			t.Errorf("%.20q turned %v, %v, mirrored %v, %v", fmt.Sprint(r), turned, ok, mirrored, fine)
		}
	}
}

func TestTurnedNumber(t *testing.T) {
	for n, want := range map[int]int{
		0: 0, 2: 2, 5: 5, 6: 9, 8: 8, 9: 6, 86: 98, 69: 69, 60: 9, 20: 2, 200: 2, 900: 6, 500000: 5, 666666: 999999,
		999999: 666666, 269850: 58692, 806908: 806908, 258852: 258852,
	} {
		if back, ok := impl.TurnedNumber(n); !ok || back != want {
			t.Errorf("TurnedNumber(%d) = %d, %v", n, back, ok)
		}
	}
	none := append([]int{1, 3, 4, 7, 10, 17, 61, 16, 888881, 188888, 200003, 71, 808087}, noNumbers...)
	for _, n := range none {
		if back, ok := impl.TurnedNumber(n); ok || back != 0 {
			t.Errorf("TurnedNumber(%d) = %d, %v", n, back, ok)
		}
	}
}

func TestTurnedNumberOfAllNumbers(t *testing.T) {
	for n := range 1000000 {
		digits, shows := turnedDigits(fmt.Sprint(n))
		want := 0
		for _, d := range digits {
			want = 10*want + int(d-'0')
		}
		if back, ok := impl.TurnedNumber(n); ok != shows || back != want {
			t.Fatalf("TurnedNumber(%d) = %d, %v", n, back, ok)
		}
	}
}

func TestCountAlike(t *testing.T) {
	alike := 0
	for n := range 10000 {
		digits := fmt.Sprint(n)
		if turned, ok := turnedDigits(digits); ok && turned == digits {
			alike++
		}
		if n > 1200 && n%89 != 0 && n != 9998 && n != 9999 {
			continue
		}
		if got, ok := impl.CountAlike(n); !ok || got != alike {
			t.Fatalf("CountAlike(%d) = %d, %v, not %d", n, got, ok, alike)
		}
	}
	for n, want := range map[int]int{0: 1, 1: 1, 2: 2, 5: 3, 8: 4, 10: 4, 21: 4, 22: 5, 69: 7, 95: 8, 96: 9, 99: 9, 999: 29, 9999: 59} {
		if got, ok := impl.CountAlike(n); !ok || got != want {
			t.Errorf("CountAlike(%d) = %d, %v", n, got, ok)
		}
	}
	for _, n := range append([]int{10000, 10001, 999999}, noNumbers...) {
		if got, ok := impl.CountAlike(n); ok || got != 0 {
			t.Errorf("CountAlike(%d) = %d, %v", n, got, ok)
		}
	}
}

func TestLitOf(t *testing.T) {
	for _, r := range manyRows() {
		want := 0
		for _, c := range r {
			want += len(lettersOf(c))
		}
		if lit, ok := impl.LitOf(r); !ok || lit != want {
			t.Errorf("LitOf(%v) = %d, %v", r, lit, ok)
		}
	}
	for _, r := range noRows {
		if lit, ok := impl.LitOf(r); ok || lit != 0 {
			t.Errorf("LitOf(%.20q) = %d, %v", fmt.Sprint(r), lit, ok)
		}
	}
}

func TestRowText(t *testing.T) {
	for want, r := range map[string][]int{
		"": {}, "-": {0}, "- -": {0, 0}, "abcdef - bc": {63, 0, 6}, "- bc -": {0, 6, 0}, "a b c d e f": {1, 2, 4, 8, 16, 32},
		"- - - - - -": {0, 0, 0, 0, 0, 0}, "abcdefg abcdefg abcdefg abcdefg abcdefg abcdefg": {127, 127, 127, 127, 127, 127},
	} {
		if text, ok := impl.RowText(r); !ok || text != want {
			t.Errorf("RowText(%v) = %q, %v", r, text, ok)
		}
	}
	for _, r := range manyRows() {
		var cells []string
		for _, c := range r {
			cells = append(cells, map[bool]string{true: "-", false: lettersOf(c)}[c == 0])
		}
		text, ok := impl.RowText(r)
		back, fine := impl.ParseRow(text)
		if !ok || !fine || text != strings.Join(cells, " ") || !slices.Equal(back, r) {
			t.Errorf("%v is written %q, %v and read %v, %v", r, text, ok, back, fine)
		}
	}
	for _, r := range noRows {
		if text, ok := impl.RowText(r); ok || text != "" {
			t.Errorf("RowText(%.20q) = %q, %v", fmt.Sprint(r), text, ok)
		}
	}
}

func TestParseRowFails(t *testing.T) {
	for _, s := range []string{
		" ", "  ", " -", "- ", "-  -", "bc ", " bc", "bc  bc", "abcdef  - bc", " abcdef - bc", "abcdef - bc ",
		"--", "-a", "a-", "- --", "cb", "aa", "bc cb", "bc bb", "bc - h", "A", "bc\tbc", "bc\nbc", "bc\u00a0bc", "bc,bc",
		"- - - - - - -", "a a a a a a a", "a a a a a a ", " a a a a a a", "a a a  a a a", "a a a a a aa",
		"bc -\n", "\x00", "\xff", "bc \xff", "none", "0", "\u2212", "\u2013", "a \ufffd",
		strings.Repeat(" ", 3999), strings.Repeat("-", 4001), strings.Repeat("a ", 1<<20), strings.Repeat("- ", 5) + strings.Repeat("-", 1<<20),
	} {
		if r, ok := impl.ParseRow(s); ok || len(r) != 0 {
			t.Errorf("ParseRow(%.30q) = %v, %v", s, r, ok)
		}
	}
}

func TestParseRowReadsJustWhatIsWritten(t *testing.T) {
	cells := []int{0, 1, 2, 64, 3, 65, 66, 67}
	written := map[string][]int{"": nil}
	rows := [][]int{nil}
	for range 4 {
		var longer [][]int
		for _, r := range rows {
			for _, c := range cells {
				longer = append(longer, append(slices.Clone(r), c))
			}
		}
		rows = longer
		for _, r := range rows {
			text, _ := impl.RowText(r)
			written[text] = r
		}
	}
	if len(written) != 1+8+64+512+4096 {
		t.Fatal("rows with the same text:", len(written))
	}
	// No text of seven bytes has more than four cells.
	for _, s := range textsOver("abg -", 7) {
		want, is := written[s]
		if r, ok := impl.ParseRow(s); ok != is || !slices.Equal(r, want) {
			t.Fatalf("ParseRow(%q) = %v, %v", s, r, ok)
		}
	}
}

func TestArgumentsOfCellsAreNotModified(t *testing.T) {
	for _, r := range [][]int{{63, 6, 0, 91, 125, 48, 7, 1}, {127, 63, 111, 6, 6, 6, 6, 6}, {-1, 128, 6, 6, 6, 6, 6, 6}} {
		kept := slices.Clone(r)
		for size := range len(r) + 1 {
			part := r[:size]
			impl.IsRow(part)
			impl.NumberOf(part)
			impl.TurnRow(part)
			impl.MirrorRow(part)
			impl.LitOf(part)
			impl.RowText(part)
		}
		if !slices.Equal(r, kept) {
			t.Error("the row is", r, "and was", kept)
		}
	}
}

// spoil changes all that a caller can reach by a result.
func spoil(r []int) {
	r = r[:cap(r)]
	for i := range r {
		r[i] = -7
	}
}

// standAlone fails for calls whose results share memory with those of later calls, or with the list that is given to them.
func standAlone(t *testing.T, given []int, calls map[string]func() ([]int, bool)) {
	before := slices.Clone(given)
	for name, call := range calls {
		first, ok := call()
		kept := slices.Clone(first)
		spoil(first)
		if again, fine := call(); ok != fine || !slices.Equal(again, kept) {
			t.Error(name, "is", again, "and was", kept)
		}
		if !slices.Equal(given, before) {
			t.Fatal(name, "shares its argument:", given)
		}
	}
}

func TestResultsOfCellsStandAlone(t *testing.T) {
	given := []int{8, 8, 8}
	calls := map[string]func() ([]int, bool){
		"RowOf":        func() ([]int, bool) { return impl.RowOf(405) },
		"RowOf -1":     func() ([]int, bool) { return impl.RowOf(-1) },
		"TurnRow":      func() ([]int, bool) { return impl.TurnRow(given) },
		"TurnRow {}":   func() ([]int, bool) { return impl.TurnRow(given[:0]) },
		"MirrorRow":    func() ([]int, bool) { return impl.MirrorRow(given) },
		"MirrorRow {}": func() ([]int, bool) { return impl.MirrorRow(given[:0]) },
		"ParseRow":     func() ([]int, bool) { return impl.ParseRow("a - bc") },
		"ParseRow {}":  func() ([]int, bool) { return impl.ParseRow("") },
		"ParseRow x":   func() ([]int, bool) { return impl.ParseRow("x") },
	}
	standAlone(t, given, calls)
}

// answersOfCells returns what all functions of the chapter return for numbers, rows and texts of all sorts.
func answersOfCells() []string {
	var all []string
	tell := func(x ...any) { all = append(all, fmt.Sprint(x...)) }
	numbers := slices.Concat(noCells, noNumbers, []int{0, 1, 9, 10, 86, 999, 9999, 999999})
	for c := range 128 {
		numbers = append(numbers, c)
	}
	for _, n := range numbers {
		cell, one := impl.CellOf(n)
		digit, two := impl.DigitOf(n)
		many, three := impl.CountBars(n)
		bars, four := impl.BarsOf(n)
		far, five := impl.FarCells(n, 63)
		turned, six := impl.TurnCell(n)
		mirrored, seven := impl.MirrorCell(n)
		row, eight := impl.RowOf(n)
		other, nine := impl.TurnedNumber(n)
		alike, ten := impl.CountAlike(n)
		tell(impl.IsCell(n), cell, digit, many, bars, far, turned, mirrored, row, other, alike)
		tell(one, two, three, four, five, six, seven, eight, nine, ten)
	}
	for _, r := range slices.Concat(manyRows(), noRows) {
		number, one := impl.NumberOf(r)
		turned, two := impl.TurnRow(r)
		mirrored, three := impl.MirrorRow(r)
		lit, four := impl.LitOf(r)
		text, five := impl.RowText(r)
		tell(impl.IsRow(r), number, one, turned, two, mirrored, three, lit, four, text, five)
	}
	for _, s := range append(textsOver("abg- \xff", 4), allBytes(), strings.Repeat("a ", 5000)) {
		cell, one := impl.ParseBars(s)
		row, two := impl.ParseRow(s)
		tell(cell, one, row, two)
	}
	return all
}

func TestCellsReturnTheSameForAllArguments(t *testing.T) {
	if !slices.Equal(answersOfCells(), answersOfCells()) {
		t.Error("other results for the same arguments")
	}
}
