package tests

import (
	"fmt"
	"math"
	"math/rand/v2"
	"reflect"
	"slices"
	"strings"
	"testing"

	"loop.example/g01265/impl"
)

// noGoals are lists that are no goals: without digits, with one twice, with too many, or with what is no digit.
var noGoals = append([][]int{
	nil, {}, {1, 1}, {7, 1, 7}, {0, 1, 2, 3, 4, 5, 6, 7, 8, 9, 9}, {0, 1, 2, 3, 4, 5, 6, 7, 8, 9, 10}, {0, 1, 2, 3, 4, 5, 6, 7, 8, 9, -1},
	{-1, 1, 7}, {1, -1}, {1, 7, 10}, {10, 1}, {63}, {6, 127}, {1<<32 + 1}, {1, 1<<32 + 7}, {1, 1 << 32}, {math.MinInt + 1}, {256 + 8}, slices.Repeat([]int{8}, 12),
}, noOrders...)

// within tells of all cells and digits whether each letter of the cell is one of the digit's.
var within = withinByLetters()

func withinByLetters() [128][10]bool {
	var table [128][10]bool
	for c := range table {
		for digit, letters := range digitLetters {
			table[c][digit] = strings.Trim(lettersOf(c), letters) == ""
		}
	}
	return table
}

// everyDigit returns the ten digits.
func everyDigit() []int { return []int{0, 1, 2, 3, 4, 5, 6, 7, 8, 9} }

// goals returns all sets of digits but the empty one, each in some sequence.
func goals() [][]int {
	var all [][]int
	for number, set := range setsOfDigits() {
		if len(set) > 0 {
			all = append(all, mixed(set, number))
		}
	}
	return all
}

// someGoals returns those of them with the fewest and the most digits, and some of the others.
func someGoals() [][]int {
	some := [][]int{{1, 7, 4}, {1, 4, 7, 8}, {2, 4, 5, 7}, {7, 5, 4, 2}, {3, 0, 4}, {6, 4, 2, 7}}
	for i, goal := range goals() {
		if len(goal) < 3 || len(goal) > 8 || i%11 == 0 {
			some = append(some, goal)
		}
	}
	return some
}

// lighting is one bar that can be lit, and the cell that comes of it.
type lighting struct{ bar, cell int }

// lightingsTo returns for all cells on the way to a goal what can be lit in them, from the bar a on.
func lightingsTo(goal []int) map[int][]lighting {
	on := func(c int) bool {
		return slices.ContainsFunc(goal, func(digit int) bool { return within[c][digit] })
	}
	ways := map[int][]lighting{}
	for c := range 128 {
		if !on(c) {
			continue
		}
		ways[c] = nil
		for bar, letter := range []string{"a", "b", "c", "d", "e", "f", "g"} {
			if lit := c + powerOfTwo(bar); !strings.Contains(lettersOf(c), letter) && on(lit) {
				ways[c] = append(ways[c], lighting{bar, lit})
			}
		}
	}
	return ways
}

// isDigitOf reports whether a cell is that of a digit of a goal.
func isDigitOf(goal []int, c int) bool {
	return slices.ContainsFunc(goal, func(digit int) bool { return digitNumbers[digit] == c })
}

// offWay returns all cells that are not on the way to a goal.
func offWay(goal []int) []int {
	ways := lightingsTo(goal)
	return slices.DeleteFunc(everyCell(), func(c int) bool { _, on := ways[c]; return on })
}

// outlook is what the document says of a cell on the way, by the outlooks of the cells behind it.
type outlook struct {
	number                   int
	miss, race               bool
	longest, shortest, plays int
	last                     []int
}

// outlooksTo returns the outlooks of all cells on the way to a goal.
func outlooksTo(goal []int) map[int]outlook {
	ways, known := lightingsTo(goal), map[int]outlook{}
	var look func(c int) outlook
	look = func(c int) outlook {
		if o, is := known[c]; is {
			return o
		}
		if len(ways[c]) == 0 {
			known[c] = outlook{miss: true, plays: 1, last: []int{c}}
			return known[c]
		}
		o := outlook{shortest: 7}
		var taken [8]bool
		for _, l := range ways[c] {
			then := look(l.cell)
			taken[then.number] = true
			o.miss = o.miss || !then.miss
			o.race = o.race || isDigitOf(goal, l.cell) || !then.race
			o.longest = max(o.longest, then.longest+1)
			o.shortest = min(o.shortest, then.shortest+1)
			o.plays += then.plays
			o.last = append(o.last, then.last...)
		}
		o.number = slices.Index(taken[:], false)
		slices.Sort(o.last)
		o.last = slices.Compact(o.last)
		known[c] = o
		return o
	}
	for c := range ways {
		look(c)
	}
	return known
}

// allPlays returns all plays from a cell, as the letters of the bars that they light one after the other, and where they end.
func allPlays(ways map[int][]lighting, c int) ([]string, []int) {
	if len(ways[c]) == 0 {
		return []string{""}, []int{c}
	}
	var plays []string
	var ends []int
	for _, l := range ways[c] {
		rest, last := allPlays(ways, l.cell)
		for _, play := range rest {
			plays = append(plays, "abcdefg"[l.bar:l.bar+1]+play)
		}
		ends = append(ends, last...)
	}
	return plays, ends
}

// search plays the game from rows to their ends, whatever the numbers of their cells are.
type search struct {
	ways  map[int][]lighting
	known map[[6]int]bool
}

func searchTo(goal []int) search {
	return search{lightingsTo(goal), map[[6]int]bool{}}
}

// wins reports whether who is to light a bar at a row has a move behind which the other one does not win.
func (s search) wins(r []int) bool {
	sorted := [6]int{-1, -1, -1, -1, -1, -1}
	copy(sorted[:], r)
	slices.Sort(sorted[:])
	wins, is := s.known[sorted]
	if !is {
		for _, move := range s.moves(r) {
			wins = wins || !s.wins(lit(r, move))
		}
		s.known[sorted] = wins
	}
	return wins
}

// moves returns all moves at a row, in order.
func (s search) moves(r []int) [][2]int {
	var moves [][2]int
	for place, c := range r {
		for _, l := range s.ways[c] {
			moves = append(moves, [2]int{place, l.bar})
		}
	}
	return moves
}

// winning returns those with which who makes them wins.
func (s search) winning(r []int) [][2]int {
	return slices.DeleteFunc(s.moves(r), func(move [2]int) bool { return s.wins(lit(r, move)) })
}

// game returns the moves of the game from a row, and who loses.
func (s search) game(r []int) ([][2]int, int) {
	var game [][2]int
	loser := 0
	for moves := s.moves(r); len(moves) > 0; moves = s.moves(r) {
		if winning := s.winning(r); len(winning) > 0 {
			moves = winning
		}
		game = append(game, moves[0])
		r = lit(r, moves[0])
		loser = 1 - loser
	}
	return game, loser
}

// lit returns a row behind a move.
func lit(r []int, move [2]int) []int {
	row := slices.Clone(r)
	row[move[0]] += powerOfTwo(move[1])
	return row
}

// rowsOnWay returns the empty row and rows of each other length with cells on the way to a goal, dark ones and those of its digits among them.
func rowsOnWay(goal []int, many int) [][]int {
	var cells []int
	for c := range lightingsTo(goal) {
		cells = append(cells, c)
	}
	slices.Sort(cells)
	rows := [][]int{nil, {}}
	numbers := rand.New(rand.NewPCG(11, uint64(len(cells))))
	for size := 1; size <= 6; size++ {
		rows = append(rows, make([]int, size), slices.Repeat([]int{digitNumbers[goal[0]]}, size), slices.Repeat([]int{cells[len(cells)/2]}, size))
		for range many {
			row := make([]int, size)
			for i := range row {
				row[i] = cells[numbers.IntN(len(cells))]
			}
			rows = append(rows, row)
		}
	}
	return rows
}

func TestIsGoal(t *testing.T) {
	for _, goal := range goals() {
		if !impl.IsGoal(goal) {
			t.Error("a goal:", goal)
		}
	}
	for _, goal := range slices.Concat(ordersOf([]int{0, 4, 7, 8}), [][]int{{9, 8, 7, 6, 5, 4, 3, 2, 1, 0}, {0}, {9}, {1, 7}, {7, 1}}) {
		if !impl.IsGoal(goal) {
			t.Error("a goal:", goal)
		}
	}
	for _, goal := range noGoals {
		if impl.IsGoal(goal) {
			t.Errorf("no goal: %.60s", fmt.Sprint(goal))
		}
	}
	for _, digit := range noDigits {
		for size := range 10 {
			goal := append(mixed(everyDigit()[:size], size), digit)
			if impl.IsGoal(goal) || impl.IsGoal(mixed(goal, digit&255)) {
				t.Error("no goal:", goal)
			}
		}
	}
}

func TestIsOnWay(t *testing.T) {
	for _, goal := range goals() {
		ways := lightingsTo(goal)
		for c := range 128 {
			_, want := ways[c]
			if on, ok := impl.IsOnWay(c, goal); !ok || on != want {
				t.Fatalf("%d is on the way to %v: %v, %v", c, goal, on, ok)
			}
		}
	}
	for _, x := range []struct {
		letters string
		goal    []int
		on      bool
	}{
		{"", []int{1}, true}, {"b", []int{1}, true}, {"bc", []int{1}, true}, {"a", []int{1}, false}, {"abc", []int{1}, false}, {"abc", []int{1, 7}, true}, {"d", []int{1, 7}, false},
		{"af", []int{4, 7}, false}, {"bf", []int{4, 7}, true}, {"abcdefg", []int{0, 1, 2, 3, 4, 5, 6, 7, 9}, false}, {"abcdefg", []int{8}, true}, {"be", []int{3, 6}, false}, {"beg", []int{2}, true},
	} {
		c, _ := impl.ParseBars(x.letters)
		if on, ok := impl.IsOnWay(c, x.goal); !ok || on != x.on {
			t.Errorf("%q is on the way to %v: %v, %v", x.letters, x.goal, on, ok)
		}
	}
}

func TestLightableBars(t *testing.T) {
	for _, goal := range goals() {
		for c, can := range lightingsTo(goal) {
			want := ""
			for _, l := range can {
				want += "abcdefg"[l.bar : l.bar+1]
			}
			if bars, ok := impl.LightableBars(c, goal); !ok || bars != want {
				t.Fatalf("in %d on the way to %v can be lit %q, %v, not %q", c, goal, bars, ok, want)
			}
		}
	}
}

func TestPlays(t *testing.T) {
	for _, goal := range goals() {
		for c, want := range outlooksTo(goal) {
			longest, one := impl.LongestPlay(c, goal)
			shortest, two := impl.ShortestPlay(c, goal)
			plays, three := impl.CountPlays(c, goal)
			last, four := impl.LastCells(c, goal)
			if !one || !two || !three || !four || longest != want.longest || shortest != want.shortest || plays != want.plays || !slices.Equal(last, want.last) {
				t.Fatalf("the plays from %d to %v: at most %d, %v, at least %d, %v, many %d, %v, to %v, %v, not %v", c, goal, longest, one, shortest, two, plays, three, last, four, want)
			}
		}
	}
}

func TestPlaysOneByOne(t *testing.T) {
	for _, goal := range [][]int{{1}, {7}, {1, 7}, {4, 7}, {2, 1}, {2, 5}, {7, 4, 2}, {3, 0, 4}, {2, 4, 5, 7}, {9, 6}, {8}, everyDigit()} {
		ways := lightingsTo(goal)
		for c := range ways {
			plays, ends := allPlays(ways, c)
			sizes := map[int]bool{}
			different := map[string]bool{}
			for _, play := range plays {
				sizes[len(play)] = true
				different[play] = true
			}
			slices.Sort(ends)
			ends = slices.Compact(ends)
			longest, one := impl.LongestPlay(c, goal)
			shortest, two := impl.ShortestPlay(c, goal)
			many, three := impl.CountPlays(c, goal)
			last, four := impl.LastCells(c, goal)
			if !one || !two || !three || !four || many != len(different) || !slices.Equal(last, ends) {
				t.Fatalf("from %d to %v are %d, %v plays to %v, %v, not %d to %v", c, goal, many, three, last, four, len(different), ends)
			}
			for size := range sizes {
				if size > longest || size < shortest || !sizes[longest] || !sizes[shortest] {
					t.Fatalf("a play from %d to %v lights %d, and they light %d to %d", c, goal, size, shortest, longest)
				}
			}
		}
	}
}

func TestPlaysEndAtDigitsOfTheGoal(t *testing.T) {
	for _, goal := range goals() {
		for c := range lightingsTo(goal) {
			last, ok := impl.LastCells(c, goal)
			if !ok || len(last) == 0 || !slices.IsSorted(last) {
				t.Fatalf("from %d to %v plays end at %v, %v", c, goal, last, ok)
			}
			for _, end := range last {
				digit, one := impl.DigitOf(end)
				bars, two := impl.LightableBars(end, goal)
				if !one || !two || !slices.Contains(goal, digit) || bars != "" {
					t.Fatalf("a play from %d to %v ends at %d, where %q can be lit", c, goal, end, bars)
				}
			}
		}
	}
}

func TestNumbersAndWhoWinsAtOneCell(t *testing.T) {
	for _, goal := range someGoals() {
		for c, want := range outlooksTo(goal) {
			number, one := impl.CellNumber(c, goal)
			wins, two := impl.LightWins([]int{c}, goal)
			miss, three := impl.MissWins(c, goal)
			race, four := impl.RaceWins(c, goal)
			if !one || !two || !three || number != want.number || wins != (want.number > 0) || miss != want.miss {
				t.Fatalf("%d on the way to %v: %d, %v, %v, %v, %v, %v, not %v", c, goal, number, one, wins, two, miss, three, want)
			}
			if is := isDigitOf(goal, c); four == is || race != (want.race && !is) {
				t.Fatalf("the race at %d to %v: %v, %v, not %v", c, goal, race, four, want.race)
			}
		}
	}
}

// toldOf returns what all functions for one cell on the way return, and which of them succeed.
func toldOf(c int, goal []int) ([]string, []bool) {
	bars, a := impl.LightableBars(c, goal)
	number, b := impl.CellNumber(c, goal)
	miss, d := impl.MissWins(c, goal)
	race, e := impl.RaceWins(c, goal)
	longest, f := impl.LongestPlay(c, goal)
	shortest, g := impl.ShortestPlay(c, goal)
	plays, h := impl.CountPlays(c, goal)
	last, i := impl.LastCells(c, goal)
	var told []string
	for _, x := range []any{bars, number, miss, race, longest, shortest, plays, last} {
		told = append(told, fmt.Sprint(x))
	}
	return told, []bool{a, b, d, e, f, g, h, i}
}

// oneByOne tells the same as a text, a dash standing for what functions that fail return.
func oneByOne(c int, goal []int) string {
	told, succeed := toldOf(c, goal)
	for i, ok := range succeed {
		if !ok {
			told[i] = "-"
		}
	}
	return strings.Join(told, "|")
}

func TestSomeCells(t *testing.T) {
	for _, x := range []struct {
		goal []int
		c    int
		want string
	}{
		{[]int{1}, 0, "bc|0|true|false|2|2|2|[6]"}, {[]int{1}, 2, "c|1|false|true|1|1|1|[6]"}, {[]int{1}, 6, "|0|true|-|0|0|1|[6]"}, {[]int{1}, 1, "-|-|-|-|-|-|-|-"}, {[]int{1}, 7, "-|-|-|-|-|-|-|-"},
		{[]int{1, 7}, 0, "abc|1|false|true|3|3|6|[7]"}, {[]int{1, 7}, 1, "bc|0|true|false|2|2|2|[7]"}, {[]int{1, 7}, 2, "ac|0|true|true|2|2|2|[7]"}, {[]int{7, 1}, 6, "a|1|false|-|1|1|1|[7]"},
		{[]int{1, 7}, 5, "b|1|false|true|1|1|1|[7]"}, {[]int{1, 7}, 7, "|0|true|-|0|0|1|[7]"}, {[]int{1, 7}, 8, "-|-|-|-|-|-|-|-"}, {[]int{4, 1}, 38, "g|1|false|true|1|1|1|[102]"},
		{[]int{2, 1}, 0, "abcdeg|3|true|true|5|2|122|[6 91]"}, {[]int{1, 2}, 2, "acdeg|2|true|true|4|1|25|[6 91]"}, {[]int{2, 1}, 4, "b|1|false|true|1|1|1|[6]"}, {[]int{2, 1}, 91, "|0|true|-|0|0|1|[91]"},
		{[]int{4, 7}, 0, "abcfg|2|true|true|4|3|30|[7 102]"}, {[]int{7, 4}, 2, "acfg|3|true|true|3|2|8|[7 102]"}, {[]int{2, 4, 5, 7}, 0, "abcdefg|1|false|true|5|3|270|[7 91 102 109]"},
		{[]int{2, 4, 7}, 1, "bcdeg|0|true|false|4|2|26|[7 91]"}, {[]int{3, 0, 4}, 0, "abcdefg|0|true|false|6|4|864|[63 79 102]"}, {[]int{9, 6}, 2, "acdfg|1|false|true|5|5|120|[111]"},
		{[]int{8}, 0, "abcdefg|1|false|true|7|7|5040|[127]"}, {[]int{8}, 126, "a|1|false|true|1|1|1|[127]"}, {[]int{8}, 127, "|0|true|-|0|0|1|[127]"},
		{everyDigit(), 0, "abcdefg|1|false|true|7|7|5040|[127]"}, {everyDigit(), 4, "abdefg|0|true|true|6|6|720|[127]"}, {everyDigit(), 6, "adefg|1|false|-|5|5|120|[127]"},
		{[]int{0, 1, 2, 3, 4, 5, 6, 7, 9}, 127, "-|-|-|-|-|-|-|-"},
	} {
		if told := oneByOne(x.c, x.goal); told != x.want {
			t.Errorf("%d on the way to %v: %s, not %s", x.c, x.goal, told, x.want)
		}
	}
}

func TestGoalsOfOneDigit(t *testing.T) {
	sequences := []int{1, 1, 2, 6, 24, 120, 720, 5040}
	for digit, end := range digitNumbers {
		for c := range 128 {
			want := "-|-|-|-|-|-|-|-"
			if within[c][digit] {
				dark := farWritten[c][end]
				race := fmt.Sprint(dark%2 == 1)
				if dark == 0 {
					race = "-"
				}
				want = fmt.Sprintf("%s|%d|%v|%s|%d|%d|%d|[%d]", lettersOf(end-c), dark%2, dark%2 == 0, race, dark, dark, sequences[dark], end)
			}
			if told := oneByOne(c, []int{digit}); told != want {
				t.Fatalf("%d on the way to %d: %s, not %s", c, digit, told, want)
			}
		}
	}
}

func TestTheSequenceOfAGoalDoesNotMatter(t *testing.T) {
	for _, set := range [][]int{{1, 7}, {1, 4, 7}, {2, 3, 5}, {0, 1, 4, 8}} {
		rows := rowsOnWay(set, 5)
		for _, goal := range ordersOf(set) {
			for c := -1; c < 129; c++ {
				if one, other := oneByOne(c, goal), oneByOne(c, set); one != other {
					t.Fatalf("%d on the way to %v: %s, and to %v: %s", c, goal, one, set, other)
				}
			}
			for _, r := range rows {
				if one, other := fmt.Sprint(answersFor(r, goal)...), fmt.Sprint(answersFor(r, set)...); one != other {
					t.Fatalf("%v on the way to %v: %s, and to %v: %s", r, goal, one, set, other)
				}
			}
		}
	}
}

// answersFor returns what all functions for a row return.
func answersFor(r, goal []int) []any {
	wins, one := impl.LightWins(r, goal)
	winning, two := impl.WinningMoves(r, goal)
	game, loser, three := impl.PlayGame(r, goal)
	return []any{wins, winning, game, loser, one, two, three}
}

// sameGame fails if the functions for a row do not return what comes of a search.
func sameGame(t *testing.T, s search, r, goal []int) {
	t.Helper()
	wins, one := impl.LightWins(r, goal)
	winning, two := impl.WinningMoves(r, goal)
	game, loser, three := impl.PlayGame(r, goal)
	moves, last := s.game(r)
	if !one || !two || !three || wins != s.wins(r) || !slices.Equal(winning, s.winning(r)) || !slices.Equal(game, moves) || loser != last {
		t.Fatalf("%v on the way to %v: %v, %v, by %v, %v, and %v, %d, %v, not %v, by %v, and %v, %d", r, goal, wins, one, winning, two, game, loser, three, s.wins(r), s.winning(r), moves, last)
	}
}

func TestGamesAreThoseOfASearch(t *testing.T) {
	for _, x := range []struct {
		goal        []int
		cells, step int
	}{
		{[]int{1}, 6, 1}, {[]int{7}, 4, 1}, {[]int{7, 1}, 5, 3}, {[]int{1, 7}, 6, 13}, {[]int{4}, 3, 1}, {[]int{4, 7}, 1, 1}, {[]int{7, 4}, 2, 1}, {[]int{4, 7}, 3, 3}, {[]int{4, 7}, 4, 29}, {[]int{7, 4}, 5, 211},
		{[]int{2, 1}, 2, 1}, {[]int{1, 2}, 3, 17}, {[]int{2, 4, 7}, 2, 3}, {[]int{2, 7, 4}, 3, 53}, {[]int{8}, 2, 19}, {[]int{6, 4, 2, 7}, 2, 5}, {[]int{0, 3, 4}, 2, 5}, {everyDigit(), 2, 19},
	} {
		s := searchTo(x.goal)
		var cells []int
		for c := range s.ways {
			cells = append(cells, c)
		}
		slices.Sort(cells)
		for i, places := range risingRows(x.cells, len(cells)) {
			if i%x.step == 0 {
				sameGame(t, s, mixed(cellsAt(cells, places), i), x.goal)
			}
		}
	}
}

func TestSomeGames(t *testing.T) {
	for _, x := range []struct {
		goal, r []int
		winning [][2]int
		game    [][2]int
	}{
		{[]int{1, 7}, []int{0}, [][2]int{{0, 0}, {0, 1}, {0, 2}}, [][2]int{{0, 0}, {0, 1}, {0, 2}}},
		{[]int{1, 7}, []int{0, 0}, nil, [][2]int{{0, 0}, {0, 1}, {0, 2}, {1, 0}, {1, 1}, {1, 2}}},
		{[]int{1, 7}, []int{1, 4}, nil, [][2]int{{0, 1}, {0, 2}, {1, 0}, {1, 1}}},
		{[]int{2, 1}, []int{0}, [][2]int{{0, 0}, {0, 3}, {0, 4}, {0, 6}}, [][2]int{{0, 0}, {0, 1}, {0, 3}, {0, 4}, {0, 6}}},
		{[]int{2, 1}, []int{0, 2}, [][2]int{{0, 1}}, [][2]int{{0, 1}, {0, 0}, {1, 0}, {0, 3}, {0, 4}, {0, 6}, {1, 3}, {1, 4}, {1, 6}}},
		{[]int{2, 4, 7}, []int{1, 4}, [][2]int{{1, 5}, {1, 6}}, [][2]int{{1, 5}, {0, 1}, {0, 2}, {1, 1}, {1, 6}}},
		{[]int{2, 4, 5, 7}, []int{0, 2}, [][2]int{{0, 1}, {1, 0}, {1, 3}, {1, 4}}, [][2]int{{0, 1}, {0, 0}, {1, 0}, {0, 2}, {1, 2}}},
		{[]int{6, 4, 2, 7}, []int{1, 4}, [][2]int{{0, 1}}, [][2]int{{0, 1}, {0, 2}, {1, 3}, {1, 0}, {1, 4}, {1, 5}, {1, 6}}},
		{[]int{3, 0, 4}, []int{0, 6, 64}, [][2]int{{0, 6}, {1, 6}, {2, 5}}, [][2]int{{0, 6}, {0, 0}, {1, 0}, {0, 1}, {0, 2}, {0, 3}, {1, 3}, {1, 4}, {2, 0}, {1, 5}, {2, 1}, {2, 2}, {2, 3}}},
		{[]int{1}, []int{6, 2, 6, 0}, [][2]int{{1, 2}, {3, 1}, {3, 2}}, [][2]int{{1, 2}, {3, 1}, {3, 2}}},
		{[]int{8}, []int{127, 127, 127, 127, 127, 127}, nil, nil}, {[]int{8}, []int{127, 127, 127, 127, 127, 63}, [][2]int{{5, 6}}, [][2]int{{5, 6}}}, {[]int{5}, nil, nil, nil},
	} {
		wins, one := impl.LightWins(x.r, x.goal)
		winning, two := impl.WinningMoves(x.r, x.goal)
		game, loser, three := impl.PlayGame(x.r, x.goal)
		if !one || !two || !three || wins != (len(x.winning) > 0) || !slices.Equal(winning, x.winning) || !slices.Equal(game, x.game) || loser != len(x.game)%2 {
			t.Errorf("%v on the way to %v: %v, %v, by %v, %v, and %v, %d, %v", x.r, x.goal, wins, one, winning, two, game, loser, three)
		}
	}
}

func TestRowsWithoutCells(t *testing.T) {
	for _, goal := range goals() {
		for _, r := range [][]int{nil, {}} {
			wins, one := impl.LightWins(r, goal)
			winning, two := impl.WinningMoves(r, goal)
			game, loser, three := impl.PlayGame(r, goal)
			if !one || !two || !three || wins || len(winning) != 0 || len(game) != 0 || loser != 0 {
				t.Fatalf("no cells on the way to %v: %v, %v, %v, %v, %v, %d, %v", goal, wins, one, winning, two, game, loser, three)
			}
		}
	}
}

func TestWhoWinsHasAWinningMove(t *testing.T) {
	for _, goal := range someGoals() {
		looks, ways := outlooksTo(goal), lightingsTo(goal)
		for _, r := range rowsOnWay(goal, 3) {
			sum := 0
			for _, c := range r {
				sum ^= looks[c].number
			}
			wins, one := impl.LightWins(r, goal)
			winning, two := impl.WinningMoves(r, goal)
			if !one || !two || wins != (sum != 0) || wins != (len(winning) > 0) {
				t.Fatalf("%v on the way to %v: %v, %v, by %v, %v", r, goal, wins, one, winning, two)
			}
			for _, move := range (search{ways: ways}).moves(r) {
				other, ok := impl.LightWins(lit(r, move), goal)
				if !ok || other == slices.Contains(winning, move) {
					t.Fatalf("behind %v at %v on the way to %v wins the other one: %v, %v, winning are %v", move, r, goal, other, ok, winning)
				}
			}
		}
	}
}

func TestTheOneWhoWinsDoesNotLose(t *testing.T) {
	for _, goal := range someGoals() {
		ways := search{ways: lightingsTo(goal)}
		for _, r := range rowsOnWay(goal, 2) {
			wins, one := impl.LightWins(r, goal)
			game, loser, two := impl.PlayGame(r, goal)
			if !one || !two || wins != (loser == 1) || loser != len(game)%2 {
				t.Fatalf("%v on the way to %v: %v, %v, and %v, %d, %v", r, goal, wins, one, game, loser, two)
			}
			row := r
			for _, move := range game {
				first := ways.moves(row)
				if winning, ok := impl.WinningMoves(row, goal); ok && len(winning) > 0 {
					first = winning
				}
				if len(first) == 0 || move != first[0] {
					t.Fatalf("%v on the way to %v is played by %v at %v, not by the first of %v", r, goal, move, row, first)
				}
				row = lit(row, move)
			}
			if len(ways.moves(row)) != 0 {
				t.Fatalf("%v on the way to %v is played to %v", r, goal, row)
			}
		}
	}
}

// failsOfLighting tells which functions do not fail for a cell, a row and a goal, or return more than zero values.
func failsOfLighting(c int, r, goal []int) string {
	told, succeed := toldOf(c, goal)
	if text := strings.Join(told, "|"); slices.Contains(succeed, true) || text != "|0|false|false|0|0|0|[]" {
		return text + fmt.Sprint(succeed)
	}
	return failsOfGames(r, goal)
}

// failsOfGames tells which functions do not fail for a row and a goal, or return more than zero values.
func failsOfGames(r, goal []int) string {
	wins, one := impl.LightWins(r, goal)
	winning, two := impl.WinningMoves(r, goal)
	game, loser, three := impl.PlayGame(r, goal)
	if one || two || three || wins || len(winning)+len(game) != 0 || loser != 0 {
		return fmt.Sprint(wins, one, winning, two, game, loser, three)
	}
	return ""
}

func TestAllFunctionsFailForNoGoals(t *testing.T) {
	for _, goal := range noGoals {
		for _, c := range slices.Concat([]int{0, 2, 6, 7, 102, 127}, noCells) {
			for _, r := range [][]int{nil, {}, {c}, {0, c, 0}, {0, 0, 0, 0, 0, 0, 0}} {
				if failed := failsOfLighting(c, r, goal); failed != "" {
					t.Fatalf("%d and %v on the way to %.60s: %s", c, r, fmt.Sprint(goal), failed)
				}
			}
			if on, ok := impl.IsOnWay(c, goal); on || ok {
				t.Fatalf("%d is on the way to %.60s: %v, %v", c, fmt.Sprint(goal), on, ok)
			}
		}
	}
}

func TestAllFunctionsFailForNoCells(t *testing.T) {
	for _, goal := range someGoals() {
		for _, c := range noCells {
			for _, r := range [][]int{{c}, {0, c}, {c, 0}, {0, 0, 0, 0, 0, c}} {
				if failed := failsOfLighting(c, r, goal); failed != "" {
					t.Fatalf("%d and %v on the way to %v: %s", c, r, goal, failed)
				}
			}
			if on, ok := impl.IsOnWay(c, goal); on || ok {
				t.Fatalf("%d is on the way to %v: %v, %v", c, goal, on, ok)
			}
		}
	}
}

func TestAllFunctionsButIsOnWayFailForCellsOffTheWay(t *testing.T) {
	for _, goal := range someGoals() {
		end := digitNumbers[goal[0]]
		for i, c := range offWay(goal) {
			row := []int{0, end, 0, end, 0, 0}
			row[i%6] = c
			if failed := failsOfLighting(c, row, goal); failed != "" {
				t.Fatalf("%d and %v on the way to %v: %s", c, row, goal, failed)
			}
			if failed := failsOfGames(row[i%6:i%6+1], goal); failed != "" {
				t.Fatalf("%d on the way to %v: %s", c, goal, failed)
			}
			if on, ok := impl.IsOnWay(c, goal); on || !ok {
				t.Fatalf("%d is on the way to %v: %v, %v", c, goal, on, ok)
			}
		}
	}
}

func TestTheGameFailsForNoRows(t *testing.T) {
	for _, goal := range append(goals()[:40], []int{8}, everyDigit()) {
		for size := 7; size < 10; size++ {
			for _, c := range []int{0, digitNumbers[goal[0]]} {
				if failed := failsOfGames(slices.Repeat([]int{c}, size), goal); failed != "" {
					t.Fatalf("%d cells %d on the way to %v: %s", size, c, goal, failed)
				}
			}
		}
		for _, r := range noRows {
			if failed := failsOfGames(r, goal); failed != "" {
				t.Fatalf("%.60s on the way to %v: %s", fmt.Sprint(r), goal, failed)
			}
		}
	}
}

func TestTheRaceFailsAtDigitsOfTheGoal(t *testing.T) {
	for _, goal := range goals() {
		ways := lightingsTo(goal)
		for digit, c := range digitNumbers {
			_, on := ways[c]
			if race, ok := impl.RaceWins(c, goal); ok != (on && !slices.Contains(goal, digit)) || !ok && race {
				t.Fatalf("the race at the cell of %d to %v: %v, %v", digit, goal, race, ok)
			}
		}
		if race, ok := impl.RaceWins(digitNumbers[goal[0]], goal); race || ok {
			t.Fatalf("the race at the cell of %d to %v: %v, %v", goal[0], goal, race, ok)
		}
	}
}

func TestArgumentsOfLightingAreNotModified(t *testing.T) {
	row := []int{0, 2, 6, 1, 4, 7, 128, -1}
	keptRow := slices.Clone(row)
	for _, goal := range [][]int{{1, 7}, {7, 1, 4}, {9, 3, 7, 0, 8, 2, 6, 5, 1, 4}, {1, 7, 1}, {7, -1}, {8, 10}} {
		keptGoal := slices.Clone(goal)
		for size := range len(row) + 1 {
			for digits := range len(goal) + 1 {
				impl.IsGoal(goal[:digits])
				answersFor(row[:size], goal[:digits])
				for _, c := range row {
					impl.IsOnWay(c, goal[:digits])
					oneByOne(c, goal[:digits])
				}
			}
		}
		if !slices.Equal(goal, keptGoal) || !slices.Equal(row, keptRow) {
			t.Fatal("the goal is", goal, "and was", keptGoal, "the row is", row, "and was", keptRow)
		}
	}
}

func TestResultsOfLightingStandAlone(t *testing.T) {
	goal, row := []int{7, 2, 4}, []int{0, 2, 4, 66, 7, 0}
	standAlone(t, goal, map[string]func() ([]int, bool){
		"LastCells":     func() ([]int, bool) { return impl.LastCells(0, goal) },
		"LastCells end": func() ([]int, bool) { return impl.LastCells(7, goal) },
		"LastCells no":  func() ([]int, bool) { return impl.LastCells(127, goal) },
	})
	for size := range len(row) + 1 {
		for digits := range len(goal) + 1 {
			part, aim := row[:size], goal[:digits]
			standApart(t, nil, row, [2]int{-7, -7}, map[string]func() ([][2]int, bool){
				"WinningMoves": func() ([][2]int, bool) { return impl.WinningMoves(part, aim) },
				"PlayGame":     func() ([][2]int, bool) { game, _, ok := impl.PlayGame(part, aim); return game, ok },
			})
		}
	}
	if !slices.Equal(goal, []int{7, 2, 4}) {
		t.Error("the goal is", goal)
	}
}

// answersOfLighting returns what all functions of the chapter return for cells, rows and goals of all sorts.
func answersOfLighting() []any {
	var all []any
	for _, goal := range slices.Concat(noGoals, [][]int{{1}, {7, 1}, {4, 7}, {8}, {2, 4, 5, 7}, everyDigit()}) {
		all = append(all, impl.IsGoal(goal))
		for _, c := range append(everyCell(), noCells...) {
			on, ok := impl.IsOnWay(c, goal)
			all = append(all, on, ok, oneByOne(c, goal))
		}
		for _, r := range slices.Concat(manyRows()[:200], noRows, rowsOnWay([]int{7}, 5)) {
			all = append(all, answersFor(r, goal)...)
		}
	}
	return all
}

func TestLightingReturnsTheSameForAllArguments(t *testing.T) {
	if !reflect.DeepEqual(answersOfLighting(), answersOfLighting()) {
		t.Error("other results for the same arguments")
	}
}
