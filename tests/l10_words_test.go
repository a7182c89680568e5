package tests

import (
	"fmt"
	"math"
	"reflect"
	"slices"
	"strings"
	"testing"

	"loop.example/g01265/impl"
)

// alphabet has the letters of words, in order.
const alphabet = "abcdefhjlnoprtuy"

// letterWritten is the document's table of the letters, written out by hand.
var letterWritten = map[string]string{
	"a": "abcefg", "b": "cdefg", "c": "adef", "d": "bcdeg", "e": "adefg", "f": "aefg", "h": "cefg", "j": "bcde",
	"l": "def", "n": "ceg", "o": "cdeg", "p": "abefg", "r": "eg", "t": "defg", "u": "cde", "y": "bcdfg",
}

// letterNumbers are the cells of the same letters as numbers, a being 1 and g 64.
var letterNumbers = map[string]int{
	"a": 119, "b": 124, "c": 57, "d": 94, "e": 121, "f": 113, "h": 116, "j": 30, "l": 56, "n": 84, "o": 92, "p": 115, "r": 80, "t": 120, "u": 28, "y": 110,
}

// turnedWritten has the letters that are digits when they are turned, and these digits.
var turnedWritten = map[string]string{"e": "3", "h": "4", "l": "7"}

// signsOfDigits has the letters to which digits turn, if they turn to one.
var signsOfDigits = map[string]string{"3": "e", "4": "h", "7": "l"}

// mirroredLetters has the letters that are mirrored to letters, and these.
var mirroredLetters = map[string]string{"a": "a", "b": "d", "d": "b", "n": "n", "o": "o", "u": "u"}

// nearestLetters are the pairs of letters that one bar tells apart.
var nearestLetters = []string{"ap", "bh", "bo", "bt", "ce", "cl", "dj", "do", "ef", "et", "fp", "hn", "ju", "lt", "no", "nr", "ou"}

// noLetters are texts that are no letter, and no part of any word.
var noLetters = []string{
	"g", "i", "k", "m", "q", "s", "v", "w", "x", "z", "A", "B", "C", "D", "E", "F", "H", "J", "L", "N", "O", "P", "R", "T", "U", "Y", "G", "Z",
	" ", "-", "0", "1", "3", "9", "`", "{", "~", ".", "\n", "\t", "\x00", "\x01", "\x7f", "\x80", "\xe1", "\xff", "\xc3", "\xc3\xa9", "\xed\xa0\x80",
	"ä", "é", "á", "à", "а", "е", "о", "ａ", "ｚ", "š", "Ţ", "ᵃ", "€", "\ufffd", "\U0001d41a", "\U00010061", "a\u0301", "\u0301",
}

// noWords are texts that are no words.
var noWords = append([]string{
	"g", "ag", "ga", "hi", "Hello", "hellO", "HELLO", "he llo", " hello", "hello ", "hello\n", "hel\x00lo", "he-llo", "h\xe9llo", "héllo", "7734", "abcdefg", "aaaaaaaaaaa\xff", "aaaaaaaaaaaaé", "éaaaaaaaaaaa",
	"aaaaaaaaaaaaa", "yyyyyyyyyyyyyy", "abcdefhjlnopr", alphabet, strings.Repeat("a", 24), strings.Repeat("o", 256), strings.Repeat("l", 256+12), strings.Repeat("e", 100000), strings.Repeat("\x00", 12), strings.Repeat("\xff", 13),
}, noLetters...)

// noPlaces are numbers of readings that no row has before another one.
var noPlaces = []int{-1, -2, -16, 1 << 24, 1<<24 + 1, 1 << 32, 1<<32 + 1, math.MaxInt, math.MinInt, math.MinInt + 1}

// wordsOf returns all texts of just so many of some letters, in order.
func wordsOf(letters string, size int) []string {
	words := []string{""}
	for range size {
		var longer []string
		for _, word := range words {
			for _, letter := range letters {
				longer = append(longer, word+string(letter))
			}
		}
		words = longer
	}
	return words
}

// someWord returns a word of just so many letters, another one for each number.
func someWord(size, number int) string {
	word := ""
	for i := range size {
		word += alphabet[(number*(2*i+1)+i*i+number/16*i)%16:][:1]
	}
	return word
}

// manyWords returns words of each length up to the greatest one: all of up to two letters, and some of more, with letters that are the same and that are not.
func manyWords() []string {
	words := slices.Concat(wordsOf(alphabet, 0), wordsOf(alphabet, 1), wordsOf(alphabet, 2))
	for size := 3; size <= 12; size++ {
		for number := range 48 {
			words = append(words, someWord(size, number))
		}
		for _, letter := range []string{"a", "l", "o", "r", "y"} {
			words = append(words, strings.Repeat(letter, size))
		}
	}
	return append(words, "hello", "boo", "bold", "nonono", "lehhel", "banana", "pen", "abcdefhjlnop", "cdefhj", "ytrpon")
}

// shortWords returns those of the same words that are short.
func shortWords() []string {
	return slices.DeleteFunc(manyWords(), func(s string) bool { return len(s) > 6 })
}

// longWords returns those that are not.
func longWords() []string {
	return slices.DeleteFunc(manyWords(), func(s string) bool { return len(s) <= 6 })
}

// spelledBy returns the row that spells a word.
func spelledBy(s string) []int {
	var row []int
	for i := range len(s) {
		row = append(row, letterNumbers[s[i:i+1]])
	}
	return row
}

// spellByHand returns the word that a row spells, and whether there is one.
func spellByHand(r []int) (string, bool) {
	word := ""
	for _, c := range r {
		place := slices.IndexFunc(strings.Split(alphabet, ""), func(letter string) bool { return letterWritten[letter] == lettersOf(c) })
		if place < 0 {
			return "", false
		}
		word += alphabet[place : place+1]
	}
	return word, true
}

// changedSigns returns a text whose letters are those of s, from the last one to the first one, as a table has them, and whether it has all of them.
func changedSigns(s string, table map[string]string) (string, bool) {
	out := ""
	for i := len(s) - 1; i >= 0; i-- {
		sign, ok := table[s[i:i+1]]
		if !ok {
			return "", false
		}
		out += sign
	}
	return out, true
}

// fitsOver reports whether a letter has all bars that light in a cell.
func fitsOver(letter string, c int) bool {
	for _, bar := range strings.Split(lettersOf(c), "") {
		if !strings.Contains(letterWritten[letter], bar) {
			return false
		}
	}
	return true
}

// readingsByHand returns all readings of a row, in order: each one of the cells before a cell, with each letter behind it that fits there.
func readingsByHand(r []int) []string {
	readings := []string{""}
	for _, c := range r {
		fitting := slices.DeleteFunc(strings.Split(alphabet, ""), func(letter string) bool { return !fitsOver(letter, c) })
		var longer []string
		for _, reading := range readings {
			for _, letter := range fitting {
				longer = append(longer, reading+letter)
			}
		}
		readings = longer
	}
	return readings
}

// changesBetween returns how many bars change between rows, where cells that are not there are dark.
func changesBetween(before, after []int) int {
	changes := 0
	for place := range max(len(before), len(after)) {
		var one, other int
		if place < len(before) {
			one = before[place]
		}
		if place < len(after) {
			other = after[place]
		}
		changes += farWritten[one][other]
	}
	return changes
}

// scrolledByHand returns the rows of a word that goes through k cells, each letter put where it is by then.
func scrolledByHand(s string, k int) [][]int {
	var rows [][]int
	for step := 1; s != "" && step < len(s)+k; step++ {
		row := make([]int, k)
		for i := range len(s) {
			if place := k + i - step; place >= 0 && place < k {
				row[place] = letterNumbers[s[i:i+1]]
			}
		}
		rows = append(rows, row)
	}
	return rows
}

func TestLimitsOfWords(t *testing.T) {
	if impl.MaxScroll != 12 {
		t.Error("letters of a word at most:", impl.MaxScroll)
	}
}

func TestIsWord(t *testing.T) {
	for _, s := range slices.Concat(manyWords(), wordsOf("ely", 6), []string{"", "a", "hello", "abcdefhjlnop", "ytrponljhfed", strings.Repeat("a", 12)}) {
		if !impl.IsWord(s) {
			t.Errorf("a word: %q", s)
		}
	}
	for _, s := range noWords {
		if impl.IsWord(s) {
			t.Errorf("no word: %.60q", s)
		}
	}
}

func TestALetterTooManyOrOneThatIsNoneMakesNoWord(t *testing.T) {
	for _, s := range manyWords() {
		for place := range len(s) + 1 {
			for _, none := range noLetters {
				if text := s[:place] + none + s[place:]; impl.IsWord(text) {
					t.Fatalf("no word: %q", text)
				}
			}
			if text := s[:place] + "o" + s[place:]; impl.IsWord(text) != (len(text) <= 12) {
				t.Fatalf("%q with %d letters is a word: %v", text, len(text), impl.IsWord(text))
			}
		}
	}
}

func TestLetterCell(t *testing.T) {
	for code := range 256 {
		text := string([]byte{byte(code)})
		want, is := letterNumbers[text]
		if c, ok := impl.LetterCell(text); ok != is || c != want || lettersOf(c) != letterWritten[text] {
			t.Errorf("LetterCell(%q) = %d, %v", text, c, ok)
		}
		if impl.IsWord(text) != is {
			t.Errorf("%q is a word: %v", text, !is)
		}
	}
	for _, text := range slices.Concat([]string{""}, noWords, wordsOf(alphabet, 2), wordsOf("aeo", 3), []string{"a ", " a", "a\x00", "aa", strings.Repeat("a", 12)}) {
		if c, ok := impl.LetterCell(text); ok || c != 0 {
			t.Errorf("LetterCell(%.60q) = %d, %v", text, c, ok)
		}
	}
}

func TestSignsBeyondASCIIAreNoLetters(t *testing.T) {
	signs := []rune{0x10061, 0x1d41a, 0x10ffff, 0x100061, 0xfffd, 0xffff, 0xff41}
	for sign := rune(128); sign < 0x1000; sign++ {
		signs = append(signs, sign)
	}
	for _, sign := range signs {
		text := string(sign)
		c, ok := impl.LetterCell(text)
		if ok || c != 0 || impl.IsWord(text) || impl.IsWord("a"+text) {
			t.Errorf("%q is a letter: %d, %v", text, c, ok)
		}
	}
}

func TestLetterOf(t *testing.T) {
	for c := range 128 {
		want, is := spellByHand([]int{c})
		if letter, ok := impl.LetterOf(c); ok != is || letter != want {
			t.Errorf("LetterOf(%d) = %q, %v, not %q", c, letter, ok, want)
		}
	}
	for _, c := range noCells {
		if letter, ok := impl.LetterOf(c); ok || letter != "" {
			t.Errorf("LetterOf(%d) = %q, %v", c, letter, ok)
		}
	}
	for _, letter := range strings.Split(alphabet, "") {
		c, _ := impl.LetterCell(letter)
		if back, ok := impl.LetterOf(c); !ok || back != letter {
			t.Errorf("%q has the cell %d, which has %q, %v", letter, c, back, ok)
		}
	}
}

func TestRowOfWord(t *testing.T) {
	for _, s := range slices.Concat(shortWords(), wordsOf(alphabet, 3)) {
		if r, ok := impl.RowOfWord(s); !ok || !slices.Equal(r, spelledBy(s)) {
			t.Fatalf("RowOfWord(%q) = %v, %v", s, r, ok)
		}
	}
	for _, s := range slices.Concat(longWords(), noWords) {
		if r, ok := impl.RowOfWord(s); ok || len(r) != 0 {
			t.Errorf("RowOfWord(%.60q) = %v, %v", s, r, ok)
		}
	}
}

func TestWordOfRow(t *testing.T) {
	spelled := 0
	for _, r := range slices.Concat(manyRows(), [][]int{{119, 63}, {63, 119}, {119, 0}, {0, 119}, {119, 0, 119}, {124, 124, 124, 124, 124, 0}, {28, 28, 28, 28, 28, 28}, {110, 127}}) {
		want, is := spellByHand(r)
		if is {
			spelled++
		}
		if s, ok := impl.WordOfRow(r); ok != is || s != want {
			t.Fatalf("WordOfRow(%v) = %q, %v, not %q", r, s, ok, want)
		}
	}
	if spelled < 19 {
		t.Error("rows that spell a word:", spelled)
	}
	letters := [][]int{{119, 128}, {-1, 119}, {119, 119, 119, 119, 119, 119, 119}, {119 + 128}, {119 - 128}}
	for _, r := range slices.Concat(noRows, letters) {
		if s, ok := impl.WordOfRow(r); ok || s != "" {
			t.Errorf("WordOfRow(%.60s) = %q, %v", fmt.Sprint(r), s, ok)
		}
	}
}

func TestWordsLeadBackFromTheirRows(t *testing.T) {
	for _, s := range slices.Concat(shortWords(), wordsOf(alphabet, 3), wordsOf("dloy", 6)) {
		r, one := impl.RowOfWord(s)
		if back, two := impl.WordOfRow(r); !one || !two || back != s {
			t.Fatalf("%q has the row %v, which spells %q: %v, %v", s, r, back, one, two)
		}
	}
}

// numbersForWords returns all numbers of up to four digits, all that turn to words, some others, and the greatest ones.
func numbersForWords() []int {
	var numbers []int
	for n := range 10000 {
		numbers = append(numbers, n)
	}
	for n := 10007; n < 1000000; n += 997 {
		numbers = append(numbers, n)
	}
	for size := 1; size <= 6; size++ {
		for _, digits := range wordsOf("347", size) {
			n := 0
			for _, digit := range digits {
				n = 10*n + int(digit-'0')
			}
			numbers = append(numbers, n, n/10*10, n/10*10+1, 1000000-n)
		}
	}
	return append(numbers, 777777, 999998, 999999)
}

func TestWordOfNumber(t *testing.T) {
	for digit, c := range digitNumbers {
		want, is := spellByHand([]int{turnedByHand(c)})
		if s, ok := impl.WordOfNumber(digit); ok != is || s != want || signsOfDigits[fmt.Sprint(digit)] != want {
			t.Errorf("%d turns to %q, %v, not %q", digit, s, ok, want)
		}
	}
	for _, n := range numbersForWords() {
		want, is := changedSigns(fmt.Sprint(n), signsOfDigits)
		if s, ok := impl.WordOfNumber(n); ok != is || s != want {
			t.Fatalf("%d turns to %q, %v, not %q", n, s, ok, want)
		}
	}
	for n, want := range map[int]string{7734: "hell", 3: "e", 4: "h", 7: "l", 37: "le", 73: "el", 773: "ell", 347734: "hellhe", 333333: "eeeeee", 777777: "llllll"} {
		if s, ok := impl.WordOfNumber(n); !ok || s != want {
			t.Errorf("%d turns to %q, %v", n, s, ok)
		}
	}
	for _, n := range slices.Concat(noNumbers, []int{0, 1, 2, 5, 6, 8, 9, 10, 30, 70, 1111, 7730, 77340, 999999, -3, -7734, 3333333, 7777777, 1<<32 + 3}) {
		if s, ok := impl.WordOfNumber(n); ok || s != "" {
			t.Errorf("%d turns to %q, %v", n, s, ok)
		}
	}
}

func TestNumberOfWord(t *testing.T) {
	found := 0
	for _, s := range slices.Concat(shortWords(), wordsOf(alphabet, 3), wordsOf("ehlo", 4), wordsOf("ehl", 5), wordsOf("ehl", 6)) {
		want, is := changedSigns(s, turnedWritten)
		if s == "" || !is {
			want = "0"
		} else {
			found++
		}
		if n, ok := impl.NumberOfWord(s); ok != (want != "0") || fmt.Sprint(n) != want {
			t.Fatalf("to %q turns %d, %v, not %s", s, n, ok, want)
		}
	}
	if found < 3+9+27+81+243+729 {
		t.Error("words with numbers:", found)
	}
	for _, s := range slices.Concat([]string{"", "o", "hello", "shell", "ehlehlo", "eeeeeee", "lllllll", "hellhell", "eeeeeeeeeeee", "E", "he ll"}, longWords(), noWords) {
		if n, ok := impl.NumberOfWord(s); ok || n != 0 {
			t.Errorf("to %.60q turns %d, %v", s, n, ok)
		}
	}
}

func TestNumbersTurnToWordsAndBack(t *testing.T) {
	for _, n := range numbersForWords() {
		s, ok := impl.WordOfNumber(n)
		if !ok {
			continue
		}
		if back, fine := impl.NumberOfWord(s); !fine || back != n {
			t.Fatalf("%d turns to %q, and to it turns %d, %v", n, s, back, fine)
		}
	}
	for _, s := range slices.Concat(shortWords(), wordsOf(alphabet, 3), wordsOf("ehl", 4), wordsOf("ehl", 5), wordsOf("ehl", 6)) {
		n, ok := impl.NumberOfWord(s)
		if !ok {
			continue
		}
		if back, fine := impl.WordOfNumber(n); !fine || back != s {
			t.Fatalf("to %q turns %d, which turns to %q, %v", s, n, back, fine)
		}
	}
}

func TestWordLit(t *testing.T) {
	for _, s := range slices.Concat(manyWords(), wordsOf(alphabet, 3)) {
		want := ""
		for _, letter := range strings.Split(s, "") {
			want += letterWritten[letter]
		}
		if lit, ok := impl.WordLit(s); !ok || lit != len(want) {
			t.Fatalf("for %q light %d, %v, not %q", s, lit, ok, want)
		}
	}
	for s, want := range map[string]int{"": 0, "a": 6, "r": 2, "ab": 11, "hello": 19, "aaaaaaaaaaaa": 72, "rrrrrrrrrrrr": 24, "abcdefhjlnop": 52} {
		if lit, ok := impl.WordLit(s); !ok || lit != want {
			t.Errorf("for %q light %d, %v", s, lit, ok)
		}
	}
	for _, s := range noWords {
		if lit, ok := impl.WordLit(s); ok || lit != 0 {
			t.Errorf("for %.60q light %d, %v", s, lit, ok)
		}
	}
}

func TestMirroredWord(t *testing.T) {
	for _, letter := range strings.Split(alphabet, "") {
		want, _ := spellByHand([]int{mirroredByHand(letterNumbers[letter])})
		if want != mirroredLetters[letter] {
			t.Fatalf("%q is mirrored to %q, not to %q", letter, want, mirroredLetters[letter])
		}
	}
	for _, s := range slices.Concat(shortWords(), wordsOf(alphabet, 3), wordsOf("abdnou", 4), wordsOf("abe", 6)) {
		want, is := changedSigns(s, mirroredLetters)
		got, ok := impl.MirroredWord(s)
		if ok != is || got != want {
			t.Fatalf("%q is mirrored to %q, %v, not %q", s, got, ok, want)
		}
		if back, fine := impl.MirroredWord(got); ok && (!fine || back != s) {
			t.Fatalf("%q is mirrored to %q, and this to %q, %v", s, got, back, fine)
		}
	}
	for s, want := range map[string]string{"": "", "bo": "od", "bad": "bad", "dab": "dab", "banana": "ananad", "unnoad": "baonnu", "oooooo": "oooooo"} {
		if got, ok := impl.MirroredWord(s); !ok || got != want {
			t.Errorf("%q is mirrored to %q, %v", s, got, ok)
		}
	}
	for _, s := range slices.Concat([]string{"c", "e", "f", "h", "j", "l", "p", "r", "t", "y", "hello", "bode", "ebo", "ooooor", "ooooooo", "bobobobobobo"}, longWords(), noWords) {
		if got, ok := impl.MirroredWord(s); ok || got != "" {
			t.Errorf("%.60q is mirrored to %q, %v", s, got, ok)
		}
	}
}

func TestWordChanges(t *testing.T) {
	words := append(shortWords(), "")
	for i, a := range words {
		for j, b := range words {
			if len(a) == 2 && len(b) == 2 && (i+j)%7 != 0 {
				continue
			}
			if changes, ok := impl.WordChanges(a, b); !ok || changes != changesBetween(spelledBy(a), spelledBy(b)) {
				t.Fatalf("from %q to %q: %d, %v, not %d", a, b, changes, ok, changesBetween(spelledBy(a), spelledBy(b)))
			}
		}
	}
	for _, x := range []struct {
		a, b    string
		changes int
	}{
		{"ab", "a", 5}, {"a", "ab", 5}, {"ab", "b", 3 + 5}, {"", "", 0}, {"", "aaaaaa", 36}, {"aaaaaa", "", 36}, {"aaaaaa", "pppppp", 6}, {"hello", "hello", 0}, {"hell", "hello", 4}, {"r", "rrrrrr", 10}, {"oh", "o", 4},
	} {
		if changes, ok := impl.WordChanges(x.a, x.b); !ok || changes != x.changes {
			t.Errorf("from %q to %q: %d, %v", x.a, x.b, changes, ok)
		}
	}
	for _, s := range slices.Concat(longWords(), noWords) {
		for _, other := range []string{"", "a", "hello", s} {
			one, a := impl.WordChanges(s, other)
			two, b := impl.WordChanges(other, s)
			if a || b || one != 0 || two != 0 {
				t.Errorf("between %.60q and %.60q: %d, %v, %d, %v", s, other, one, a, two, b)
			}
		}
	}
}

// rowsToRead returns the empty row, all rows of one cell, and rows of two to four cells that have readings and that have none.
func rowsToRead() [][]int {
	rows := [][]int{nil, {}}
	for c := range 128 {
		rows = append(rows, []int{c}, []int{c, 0}, []int{0, c}, []int{c, 57}, []int{80, c, 48}, []int{c, 64, c / 3}, []int{127, c}, []int{110, c, c, 9})
	}
	return append(rows, []int{0, 0, 0}, []int{127, 127, 127, 127, 127, 127}, []int{0, 0, 0, 0, 0, 127}, []int{57, 57, 57, 57, 57, 57}, []int{119, 124, 57, 94, 121, 113}, []int{8, 120, 80, 56, 116, 28})
}

func TestReadings(t *testing.T) {
	for _, r := range rowsToRead() {
		readings := readingsByHand(r)
		if many, ok := impl.CountReadings(r); !ok || many != len(readings) {
			t.Fatalf("%v has %d, %v readings, not %d", r, many, ok, len(readings))
		}
		if !slices.IsSorted(readings) {
			t.Fatal("the readings are not in order:", readings)
		}
		for k, want := range readings {
			if reading, ok := impl.ReadingAt(r, k); !ok || reading != want {
				t.Fatalf("behind %d readings of %v is %q, %v, not %q", k, r, reading, ok, want)
			}
		}
		for _, k := range append([]int{len(readings), len(readings) + 1, len(readings) + 16, 2*len(readings) + 1}, noPlaces...) {
			if reading, ok := impl.ReadingAt(r, k); ok || reading != "" {
				t.Fatalf("behind %d readings of %v, which has %d, is %q, %v", k, r, len(readings), reading, ok)
			}
		}
	}
}

func TestReadingsOfDarkAndOfFullRows(t *testing.T) {
	dark, full := make([]int, 6), []int{127}
	many := 1
	for size := range 7 {
		if count, ok := impl.CountReadings(dark[:size]); !ok || count != many {
			t.Errorf("%d dark cells have %d, %v readings", size, count, ok)
		}
		first, one := impl.ReadingAt(dark[:size], 0)
		last, two := impl.ReadingAt(dark[:size], many-1)
		beyond, three := impl.ReadingAt(dark[:size], many)
		if !one || !two || three || first != strings.Repeat("a", size) || last != strings.Repeat("y", size) || beyond != "" {
			t.Errorf("the readings of %d dark cells: %q, %v to %q, %v and %q, %v", size, first, one, last, two, beyond, three)
		}
		many *= 16
	}
	for k, want := range map[int]string{1: "aaaaab", 15: "aaaaay", 16: "aaaaba", 1 << 20: "baaaaa", 1<<24 - 2: "yyyyyu", 0x7a3: "aaajod"} {
		if reading, ok := impl.ReadingAt(dark, k); !ok || reading != want {
			t.Errorf("behind %d readings of dark cells is %q, %v, not %q", k, reading, ok, want)
		}
	}
	for _, r := range [][]int{full, {63}, {111}, {1, 63}, {63, 0, 0, 0, 0, 0}, {0, 127, 0}} {
		many, one := impl.CountReadings(r)
		reading, two := impl.ReadingAt(r, 0)
		if !one || many != 0 || two || reading != "" {
			t.Errorf("%v has %d, %v readings, the first one is %q, %v", r, many, one, reading, two)
		}
	}
}

func TestSomeReadings(t *testing.T) {
	for _, x := range []struct {
		r        []int
		readings string
	}{
		{nil, ""}, {[]int{57}, "c e"}, {[]int{119}, "a"}, {[]int{1}, "a c e f p"}, {[]int{2}, "a d j p y"}, {[]int{6}, "a d j y"}, {[]int{80, 119}, "aa ba da ea fa ha na oa pa ra ta"},
		{[]int{57, 56}, "cb cc ce cl ct eb ec ee el et"}, {[]int{110, 7}, "ya"},
	} {
		want := strings.Split(x.readings, " ")
		var got []string
		for k := range want {
			reading, _ := impl.ReadingAt(x.r, k)
			got = append(got, reading)
		}
		if many, ok := impl.CountReadings(x.r); !ok || many != len(want) || !slices.Equal(got, want) {
			t.Errorf("the readings of %v: %d, %v, %q, not %q", x.r, many, ok, got, want)
		}
	}
}

func TestRowsThatAreNoneHaveNoReadings(t *testing.T) {
	for _, r := range noRows {
		many, ok := impl.CountReadings(r)
		if ok || many != 0 {
			t.Errorf("%.60s has %d, %v readings", fmt.Sprint(r), many, ok)
		}
		for _, k := range append([]int{0, 1, 2, 16}, noPlaces...) {
			if reading, ok := impl.ReadingAt(r, k); ok || reading != "" {
				t.Errorf("%.60s has the reading %q, %v", fmt.Sprint(r), reading, ok)
			}
		}
	}
}

func TestTheWordOfARowIsOneOfItsReadings(t *testing.T) {
	for _, s := range slices.Concat(shortWords(), []string{"", "hello", "eeeeee", "llllll"}) {
		r, one := impl.RowOfWord(s)
		many, two := impl.CountReadings(r)
		place := slices.Index(readingsByHand(r), s)
		reading, three := impl.ReadingAt(r, place)
		if !one || !two || !three || place < 0 || place >= many || reading != s {
			t.Fatalf("%q is not read in %v at %d of %d: %q", s, r, place, many, reading)
		}
	}
}

func TestScrollRows(t *testing.T) {
	for _, s := range append(manyWords(), "") {
		for k := 1; k <= 6; k++ {
			want := scrolledByHand(s, k)
			rows, ok := impl.ScrollRows(s, k)
			if !ok || !slices.EqualFunc(rows, want, slices.Equal) {
				t.Fatalf("%q goes through %d cells by %v, %v, not %v", s, k, rows, ok, want)
			}
			if s == "" && len(rows) != 0 || s != "" && len(rows) != len(s)+k-1 {
				t.Fatalf("%q goes through %d cells by %d rows", s, k, len(rows))
			}
		}
	}
	a, b, c := 119, 124, 57
	for _, x := range []struct {
		s    string
		k    int
		rows [][]int
	}{
		{"ab", 2, [][]int{{0, a}, {a, b}, {b, 0}}}, {"a", 1, [][]int{{a}}}, {"abc", 1, [][]int{{a}, {b}, {c}}}, {"a", 3, [][]int{{0, 0, a}, {0, a, 0}, {a, 0, 0}}},
		{"abc", 2, [][]int{{0, a}, {a, b}, {b, c}, {c, 0}}}, {"ab", 4, [][]int{{0, 0, 0, a}, {0, 0, a, b}, {0, a, b, 0}, {a, b, 0, 0}, {b, 0, 0, 0}}}, {"", 1, nil}, {"", 6, nil},
	} {
		if rows, ok := impl.ScrollRows(x.s, x.k); !ok || !slices.EqualFunc(rows, x.rows, slices.Equal) {
			t.Errorf("%q goes through %d cells by %v, %v", x.s, x.k, rows, ok)
		}
	}
}

func TestScrollChanges(t *testing.T) {
	for _, s := range append(manyWords(), "") {
		for k := 1; k <= 6; k++ {
			want, before := 0, []int(nil)
			for _, row := range append(scrolledByHand(s, k), nil) {
				want += changesBetween(before, row)
				before = row
			}
			if changes, ok := impl.ScrollChanges(s, k); !ok || changes != want {
				t.Fatalf("%q through %d cells: %d, %v, not %d", s, k, changes, ok, want)
			}
		}
	}
	for _, x := range []struct {
		s          string
		k, changes int
	}{
		{"ab", 2, 28}, {"ab", 1, 14}, {"", 1, 0}, {"", 6, 0}, {"a", 1, 12}, {"a", 2, 24}, {"a", 6, 72}, {"rr", 1, 4}, {"rr", 2, 8}, {"aaaaaaaaaaaa", 6, 72}, {"ryryryryryry", 1, 2 + 11*5 + 5},
	} {
		if changes, ok := impl.ScrollChanges(x.s, x.k); !ok || changes != x.changes {
			t.Errorf("%q through %d cells: %d, %v", x.s, x.k, changes, ok)
		}
	}
}

func TestNothingElseScrolls(t *testing.T) {
	fails := func(s string, k int) {
		rows, one := impl.ScrollRows(s, k)
		changes, two := impl.ScrollChanges(s, k)
		if one || two || len(rows) != 0 || changes != 0 {
			t.Errorf("%.60q goes through %d cells: %v, %v, %d, %v", s, k, rows, one, changes, two)
		}
	}
	for _, s := range noWords {
		for _, k := range append([]int{1, 2, 3, 4, 5, 6}, noCounts...) {
			fails(s, k)
		}
	}
	for _, s := range []string{"", "a", "hello", "abcdefhjlnop"} {
		for _, k := range noCounts {
			fails(s, k)
		}
	}
}

func TestLeastFarLetters(t *testing.T) {
	var want []string
	least := 7
	for _, pair := range wordsOf(alphabet, 2) {
		if far := farWritten[letterNumbers[pair[:1]]][letterNumbers[pair[1:]]]; pair[0] < pair[1] {
			if far < least {
				want, least = nil, far
			}
			if far == least {
				want = append(want, pair)
			}
		}
	}
	pairs, far := impl.LeastFarLetters()
	if far != 1 || far != least || !slices.Equal(pairs, want) || !slices.Equal(pairs, nearestLetters) {
		t.Errorf("the least far letters are %v, %d, not %v, %d", pairs, far, want, least)
	}
	for i, pair := range pairs {
		a, one := impl.LetterCell(pair[:1])
		b, two := impl.LetterCell(pair[1:])
		apart, three := impl.FarCells(a, b)
		if !one || !two || !three || apart != far || pair[:1] >= pair[1:] || i > 0 && pairs[i-1] >= pair {
			t.Errorf("%q is %d far, behind %v", pair, apart, pairs[:i])
		}
	}
}

func TestRowsOfWordsAreNotModified(t *testing.T) {
	row := []int{119, 80, 0, 57, 127, 6, 128, -1}
	kept := slices.Clone(row)
	for size := range len(row) + 1 {
		impl.WordOfRow(row[:size])
		impl.CountReadings(row[:size])
		for k := range 20 {
			impl.ReadingAt(row[:size], k)
		}
	}
	if !slices.Equal(row, kept) {
		t.Error("the row is", row, "and was", kept)
	}
}

func TestResultsOfWordsStandAlone(t *testing.T) {
	standAlone(t, nil, map[string]func() ([]int, bool){
		"RowOfWord":    func() ([]int, bool) { return impl.RowOfWord("hello") },
		"RowOfWord {}": func() ([]int, bool) { return impl.RowOfWord("") },
		"RowOfWord no": func() ([]int, bool) { return impl.RowOfWord("g") },
	})
	standApart(t, nil, nil, "spoiled", map[string]func() ([]string, bool){
		"LeastFarLetters": func() ([]string, bool) {
			pairs, _ := impl.LeastFarLetters()
			return pairs, true
		},
	})
	for _, s := range []string{"", "a", "hello", "aaaaaaaaaaaa", "g"} {
		for k := range 8 {
			rows, one := impl.ScrollRows(s, k)
			var kept [][]int
			for _, row := range rows {
				kept = append(kept, slices.Clone(row))
			}
			// Each row is spoiled as far as it reaches, and the ones behind it must not show it.
			for i := range rows {
				if !slices.Equal(rows[i], kept[i]) {
					t.Errorf("%q and %d: the row %d shares memory with another one: %v, not %v", s, k, i, rows[i], kept[i])
				}
				spoil(rows[i])
			}
			if again, two := impl.ScrollRows(s, k); one != two || !slices.EqualFunc(again, kept, slices.Equal) {
				t.Errorf("%q and %d lead to %v, and did to %v", s, k, again, kept)
			}
		}
	}
}

// answersOfWords returns what all functions of the chapter return for texts, numbers and rows of all sorts.
func answersOfWords() []any {
	var all []any
	tell := func(x ...any) { all = append(all, fmt.Sprint(x...)) }
	for _, s := range slices.Concat(manyWords(), noWords, []string{allBytes()}) {
		cell, a := impl.LetterCell(s)
		row, b := impl.RowOfWord(s)
		number, c := impl.NumberOfWord(s)
		lit, d := impl.WordLit(s)
		mirrored, e := impl.MirroredWord(s)
		tell(impl.IsWord(s), cell, row, number, lit, mirrored, a, b, c, d, e)
		for _, k := range append([]int{1, 2, 6}, noCounts...) {
			rows, f := impl.ScrollRows(s, k)
			changes, g := impl.ScrollChanges(s, k)
			tell(rows, changes, f, g)
		}
		for _, other := range []string{"", "b", "hello", "helloo", "abcdefh", "\xff", s} {
			changes, ok := impl.WordChanges(s, other)
			tell(changes, ok)
		}
	}
	for _, n := range slices.Concat(noCells, noNumbers, numbersForWords()) {
		letter, a := impl.LetterOf(n)
		word, b := impl.WordOfNumber(n)
		tell(letter, word, a, b)
	}
	for _, r := range slices.Concat(manyRows(), noRows) {
		word, a := impl.WordOfRow(r)
		many, b := impl.CountReadings(r)
		tell(word, many, a, b)
		for _, k := range append([]int{0, 1, 2, many - 1, many}, noPlaces...) {
			reading, ok := impl.ReadingAt(r, k)
			tell(reading, ok)
		}
	}
	pairs, far := impl.LeastFarLetters()
	return append(all, pairs, far)
}

func TestWordsReturnTheSameForAllArguments(t *testing.T) {
	if !reflect.DeepEqual(answersOfWords(), answersOfWords()) {
		t.Error("other results for the same arguments")
	}
}
