package tests

import (
	"fmt"
	"math"
	"math/rand/v2"
	"reflect"
	"slices"
	"strings"
	"testing"

	"loop.example/g01265/impl"
)

// statesWritten are all States, in order, written out by hand.
var statesWritten = []impl.State{
	{Bar: 0, Kind: 0},
	{Bar: 0, Kind: 1}, {Bar: 1, Kind: 1}, {Bar: 2, Kind: 1}, {Bar: 3, Kind: 1}, {Bar: 4, Kind: 1}, {Bar: 5, Kind: 1}, {Bar: 6, Kind: 1},
	{Bar: 0, Kind: 2}, {Bar: 1, Kind: 2}, {Bar: 2, Kind: 2}, {Bar: 3, Kind: 2}, {Bar: 4, Kind: 2}, {Bar: 5, Kind: 2}, {Bar: 6, Kind: 2},
}

// faulty returns the States of bars that are always dark, and of those that always light, by their letters.
func faulty(dark, lit string) []impl.State {
	var states []impl.State
	for kind, letters := range []string{1: dark, 2: lit} {
		for _, letter := range letters {
			states = append(states, impl.State{Bar: strings.IndexRune("abcdefg", letter), Kind: kind})
		}
	}
	return states
}

// leastWritten are the sets of all least tests, in order, written out by hand.
var leastWritten = [][]int{{0, 2, 4, 5}, {0, 2, 4, 6}, {1, 2, 5}, {1, 2, 6}, {2, 4, 5, 7}, {2, 4, 6, 7}}

// noStates are States that are not valid: good ones with a Bar, other Kinds, and Bars that no cell has.
var noStates = []impl.State{
	{Bar: 1}, {Bar: 2}, {Bar: 6}, {Bar: 7}, {Bar: -1}, {Bar: math.MaxInt}, {Bar: math.MinInt}, {Bar: 1 << 32},
	{Bar: 7, Kind: 1}, {Bar: 8, Kind: 1}, {Bar: -1, Kind: 1}, {Bar: 64, Kind: 1}, {Bar: 1 << 32, Kind: 1}, {Bar: math.MaxInt, Kind: 1}, {Bar: math.MinInt, Kind: 1},
	{Bar: 7, Kind: 2}, {Bar: 8, Kind: 2}, {Bar: -1, Kind: 2}, {Bar: 64, Kind: 2}, {Bar: 1<<32 + 1, Kind: 2}, {Bar: math.MaxInt, Kind: 2}, {Bar: math.MinInt, Kind: 2},
	{Kind: 3}, {Kind: -1}, {Kind: -2}, {Kind: 4}, {Bar: 3, Kind: 3}, {Bar: 3, Kind: -1}, {Kind: 1 << 32}, {Bar: 1, Kind: 1<<32 + 1}, {Kind: math.MaxInt}, {Kind: math.MinInt},
}

// noTests are lists that are no tests: with numbers that are no digits, or of too many digits.
var noTests = [][]int{
	{-1}, {10}, {0, 10}, {10, 0}, {1, 2, -1}, {-1, 2, 5}, {1, 2, 5, 10}, {math.MaxInt}, {math.MinInt}, {1 << 32}, {1, 2, 1<<32 + 5}, {256}, {63}, {127, 6},
	{0, 1, 2, 3, 4, 5, 6, 7, 8, 10}, {-1, 1, 2, 3, 4, 5, 6, 7, 8, 9}, {0, 1, 2, 3, 4, 5, 6, 7, 8, 9, 0}, {1, 2, 5, 1, 2, 5, 1, 2, 5, 1, 2}, {9, 9, 9, 9, 9, 9, 9, 9, 9, 9, 9},
	{0, 1, 2, 3, 4, 5, 6, 7, 8, 9, 10}, make([]int, 11), make([]int, 12), make([]int, 100000),
}

// manyTests returns all tests of at most three digits, all sets of digits and these mixed, and longer tests with digits that are there several times.
func manyTests() [][]int {
	tests := [][]int{nil, {}}
	for number := range 1000 {
		digits := []int{number / 100, number / 10 % 10, number % 10}
		tests = append(tests, digits)
		if number < 100 {
			tests = append(tests, digits[1:])
		}
		if number < 10 {
			tests = append(tests, digits[2:])
		}
	}
	for i, set := range setsOfDigits() {
		tests = append(tests, set, mixed(set, i))
	}
	numbers := rand.New(rand.NewPCG(7, 7))
	for size := 4; size <= 10; size++ {
		for _, among := range []int{2, 3, 4, 10} {
			for range 8 {
				some := numbers.Perm(10)[:among]
				var test []int
				for range size {
					test = append(test, some[numbers.IntN(among)])
				}
				tests = append(tests, test)
			}
		}
	}
	return tests
}

// setByHand returns the digits of a test, each once, in ascending order.
func setByHand(test []int) []int {
	var set []int
	for digit := range 10 {
		if slices.Contains(test, digit) {
			set = append(set, digit)
		}
	}
	return set
}

// findsByHand reports whether a digit does not look as it should under a State, by its letters.
func findsByHand(digit int, s impl.State) bool {
	lights := strings.Contains(digitLetters[digit], "abcdefg"[s.Bar:s.Bar+1])
	return s.Kind == 1 && lights || s.Kind == 2 && !lights
}

// placeByHand returns the first place of a test whose digit finds a State, and -1 if there is none.
func placeByHand(test []int, s impl.State) int {
	return slices.IndexFunc(test, func(digit int) bool { return findsByHand(digit, s) })
}

// statesByHand returns all States, without the good one, that a test finds or does not find.
func statesByHand(test []int, found bool) []impl.State {
	return slices.DeleteFunc(slices.Clone(statesWritten[1:]), func(s impl.State) bool { return placeByHand(test, s) >= 0 != found })
}

// isFullByHand reports whether each letter is in a digit of a test, and is not in another one.
func isFullByHand(test []int) bool {
	for _, letter := range "abcdefg" {
		lights := func(digit int) bool { return strings.ContainsRune(digitLetters[digit], letter) }
		dark := func(digit int) bool { return !strings.ContainsRune(digitLetters[digit], letter) }
		if !slices.ContainsFunc(test, lights) || !slices.ContainsFunc(test, dark) {
			return false
		}
	}
	return true
}

// isLeastByHand reports whether a test is full, and is not without any one of its digits.
func isLeastByHand(test []int) bool {
	set := setByHand(test)
	for i := range set {
		if isFullByHand(slices.Delete(slices.Clone(set), i, i+1)) {
			return false
		}
	}
	return isFullByHand(set)
}

// setsInOrder returns all sets of digits that are as wanted, in lexicographic order.
func setsInOrder(wanted func(set []int) bool) [][]int {
	var sets [][]int
	for _, set := range setsOfDigits() {
		if wanted(set) {
			sets = append(sets, set)
		}
	}
	slices.SortFunc(sets, slices.Compare)
	return sets
}

// hasPart reports whether all digits of a part are in a set.
func hasPart(set, part []int) bool {
	return !slices.ContainsFunc(part, func(digit int) bool { return !slices.Contains(set, digit) })
}

// faultByHand returns the Fault of a State.
func faultByHand(s impl.State) impl.Fault {
	bar := []int{1, 2, 4, 8, 16, 32, 64}[s.Bar]
	return []impl.Fault{{}, {Dark: bar}, {Lit: bar}}[s.Kind]
}

// cellsUnder returns what the digits of a test show under a State.
func cellsUnder(test []int, s impl.State) []int {
	var cells []int
	for _, digit := range test {
		cells = append(cells, shownByHand(faultByHand(s), digitNumbers[digit]))
	}
	return cells
}

// statesShowing returns all States under which a test shows some cells.
func statesShowing(test, cells []int) []impl.State {
	return slices.DeleteFunc(slices.Clone(statesWritten), func(s impl.State) bool { return !slices.Equal(cellsUnder(test, s), cells) })
}

func TestKindsOfStates(t *testing.T) {
	if impl.KindGood != 0 || impl.KindDark != 1 || impl.KindLit != 2 {
		t.Error("the kinds are", impl.KindGood, impl.KindDark, impl.KindLit)
	}
}

func TestIsState(t *testing.T) {
	for bar := -20; bar < 140; bar++ {
		for kind := -20; kind < 20; kind++ {
			s := impl.State{Bar: bar, Kind: kind}
			if is := impl.IsState(s); is != slices.Contains(statesWritten, s) {
				t.Errorf("%v is a State: %v", s, is)
			}
		}
	}
	for _, s := range noStates {
		if impl.IsState(s) {
			t.Errorf("%v is a State", s)
		}
	}
}

func TestFaultOfState(t *testing.T) {
	for _, s := range statesWritten {
		if f, ok := impl.FaultOfState(s); !ok || f != faultByHand(s) {
			t.Errorf("the Fault of %v is %v, %v, not %v", s, f, ok, faultByHand(s))
		}
	}
	for s, want := range map[impl.State]impl.Fault{
		{}: {}, {Bar: 0, Kind: 1}: {Dark: 1}, {Bar: 6, Kind: 1}: {Dark: 64}, {Bar: 0, Kind: 2}: {Lit: 1}, {Bar: 1, Kind: 2}: {Lit: 2}, {Bar: 6, Kind: 2}: {Lit: 64},
	} {
		if f, ok := impl.FaultOfState(s); !ok || f != want {
			t.Errorf("the Fault of %v is %v, %v", s, f, ok)
		}
	}
	for _, s := range noStates {
		if f, ok := impl.FaultOfState(s); ok || f != (impl.Fault{}) {
			t.Errorf("the Fault of %v is %v, %v", s, f, ok)
		}
	}
}

func TestStatesAreFoundOrHidden(t *testing.T) {
	for _, test := range manyTests() {
		found, one := impl.FoundStates(test)
		hidden, two := impl.HiddenStates(test)
		if !one || !two || !slices.Equal(found, statesByHand(test, true)) || !slices.Equal(hidden, statesByHand(test, false)) {
			t.Fatalf("%v finds %v, %v and hides %v, %v", test, found, one, hidden, two)
		}
		both := slices.Concat(found, hidden)
		slices.SortFunc(both, func(a, b impl.State) int { return 10*(a.Kind-b.Kind) + a.Bar - b.Bar })
		if !slices.Equal(both, statesWritten[1:]) {
			t.Fatalf("%v finds and hides %v", test, both)
		}
		set, three := impl.FoundStates(setByHand(test))
		if !three || !slices.Equal(set, found) {
			t.Fatalf("%v finds %v, and its set %v, %v", test, found, set, three)
		}
	}
}

func TestSomeStatesAreFound(t *testing.T) {
	for _, x := range []struct {
		test          []int
		found, hidden []impl.State
	}{
		{nil, nil, statesWritten[1:]}, {[]int{8}, statesWritten[1:8], statesWritten[8:]}, {[]int{8, 8, 8, 8, 8, 8, 8, 8, 8, 8}, statesWritten[1:8], statesWritten[8:]},
		{[]int{1}, faulty("bc", "adefg"), faulty("adefg", "bc")}, {[]int{0}, faulty("abcdef", "g"), faulty("g", "abcdef")}, {[]int{7, 7}, faulty("abc", "defg"), faulty("defg", "abc")},
		{[]int{8, 1}, faulty("abcdefg", "adefg"), faulty("", "bc")}, {[]int{1, 7}, faulty("abc", "adefg"), faulty("defg", "bc")}, {[]int{5, 1, 2}, statesWritten[1:], nil},
	} {
		found, one := impl.FoundStates(x.test)
		hidden, two := impl.HiddenStates(x.test)
		if !one || !two || !slices.Equal(found, x.found) || !slices.Equal(hidden, x.hidden) {
			t.Errorf("%v finds %v, %v and hides %v, %v", x.test, found, one, hidden, two)
		}
	}
}

func TestATestIsFullExactlyIfItsSetIs(t *testing.T) {
	many := 0
	for _, test := range manyTests() {
		full, one := impl.IsFullTest(test)
		set, two := impl.IsFullTest(setByHand(test))
		hidden, _ := impl.HiddenStates(test)
		if !one || !two || full != isFullByHand(test) || full != set || full != (len(hidden) == 0) {
			t.Fatalf("%v is full: %v, %v, and its set %v, %v", test, full, one, set, two)
		}
		if full && len(test) > len(setByHand(test)) {
			many++
		}
	}
	if many < 20 {
		t.Error("too few full tests with digits twice:", many)
	}
}

func TestLeastTestsWantEachOfTheirDigits(t *testing.T) {
	var least, more int
	for _, test := range manyTests() {
		is, ok := impl.IsLeastTest(test)
		if !ok || is != isLeastByHand(test) {
			t.Fatalf("%v is least: %v, %v", test, is, ok)
		}
		if is && len(test) > len(setByHand(test)) {
			least++
		}
		if !is && isFullByHand(test) && len(test) > len(setByHand(test)) {
			more++
		}
	}
	if least < 3 || more < 3 {
		t.Error("too few tests with digits twice that are least, and that are only full:", least, more)
	}
}

func TestSomeFullAndLeastTests(t *testing.T) {
	for _, x := range []struct {
		test        []int
		full, least bool
	}{
		{nil, false, false}, {[]int{0}, false, false}, {[]int{8}, false, false}, {[]int{8, 1}, false, false}, {[]int{8, 1, 2}, false, false}, {[]int{8, 8, 8}, false, false},
		{[]int{1, 2, 5}, true, true}, {[]int{5, 2, 1}, true, true}, {[]int{1, 1, 2, 5}, true, true}, {[]int{5, 1, 2, 5, 1, 2, 5, 1, 2, 5}, true, true},
		{[]int{1, 2, 5, 8}, true, false}, {[]int{8, 5, 2, 1, 8}, true, false}, {[]int{0, 1, 2, 5}, true, false}, {[]int{0, 1, 2, 3, 4, 5, 6, 7, 8, 9}, true, false},
		{[]int{0, 6, 7, 8, 9, 3}, false, false}, {[]int{7, 6, 4, 2}, true, true}, {[]int{0, 2, 4, 5, 0}, true, true}, {[]int{0, 2, 4, 5, 6}, true, false}, {[]int{0, 2, 4}, false, false},
	} {
		full, one := impl.IsFullTest(x.test)
		least, two := impl.IsLeastTest(x.test)
		if !one || !two || full != x.full || least != x.least {
			t.Errorf("%v is full: %v, %v, and least: %v, %v", x.test, full, one, least, two)
		}
	}
}

func TestNoTestOfOneDigitIsFull(t *testing.T) {
	for digit := range 10 {
		for size := 1; size <= 10; size++ {
			test := slices.Repeat([]int{digit}, size)
			full, one := impl.IsFullTest(test)
			least, two := impl.IsLeastTest(test)
			found, three := impl.FoundStates(test)
			short, four := impl.ShortestTest(test)
			if !one || !two || !three || four || full || least || len(found) != 7 || len(short) != 0 {
				t.Errorf("%v: %v", test, []any{full, one, least, two, found, three, short, four})
			}
		}
	}
}

func TestCountFullTests(t *testing.T) {
	total := 0
	for k := range 11 {
		want := len(setsInOrder(func(set []int) bool { return len(set) == k && isFullByHand(set) }))
		if count, ok := impl.CountFullTests(k); !ok || count != want {
			t.Errorf("full tests of %d digits: %d, %v, not %d", k, count, ok, want)
		}
		total += want
	}
	for k, want := range []int{0, 0, 0, 2, 17, 52, 80, 69, 34, 9, 1} {
		if count, ok := impl.CountFullTests(k); !ok || count != want {
			t.Errorf("full tests of %d digits: %d, %v", k, count, ok)
		}
	}
	if total != len(setsInOrder(isFullByHand)) {
		t.Error("full tests together:", total)
	}
	for _, k := range []int{-1, -2, -10, 11, 12, 127, 1024, 1 << 32, 1<<32 + 3, math.MaxInt, math.MinInt, math.MinInt + 3} {
		if count, ok := impl.CountFullTests(k); ok || count != 0 {
			t.Errorf("full tests of %d digits: %d, %v", k, count, ok)
		}
	}
}

func TestLeastTests(t *testing.T) {
	least := impl.LeastTests()
	if !alike(least, leastWritten) || !alike(least, setsInOrder(isLeastByHand)) {
		t.Fatal("the least tests are", least)
	}
	for _, test := range least {
		full, one := impl.IsFullTest(test)
		is, two := impl.IsLeastTest(test)
		if !one || !two || !full || !is {
			t.Errorf("%v is full: %v, %v, and least: %v, %v", test, full, one, is, two)
		}
	}
	for _, set := range setsOfDigits() {
		full, ok := impl.IsFullTest(set)
		if has := slices.ContainsFunc(least, func(part []int) bool { return hasPart(set, part) }); !ok || full != has {
			t.Errorf("%v is full: %v, %v, and has a least test as a part: %v", set, full, ok, has)
		}
	}
}

// shortestByHand returns the first one of the shortest full sets of some digits, and nothing if there is none.
func shortestByHand(digits []int) []int {
	sets := setsInOrder(func(set []int) bool { return hasPart(digits, set) && isFullByHand(set) })
	if len(sets) == 0 {
		return nil
	}
	return slices.MinFunc(sets, func(a, b []int) int { return len(a) - len(b) })
}

func TestShortestTest(t *testing.T) {
	none := 0
	for i, set := range setsOfDigits() {
		want := shortestByHand(set)
		lists := [][]int{set, mixed(set, i), backwards(set, func(digit int) int { return digit })}
		for len(set) > 0 && len(set) < 10 && len(lists) < 5 {
			set = append(slices.Clone(set), set[i%len(set)])
			lists = append(lists, set, mixed(set, i+1))
		}
		for _, digits := range lists {
			short, ok := impl.ShortestTest(digits)
			if ok != (want != nil) || !slices.Equal(short, want) {
				t.Fatalf("the shortest test of %v is %v, %v, not %v", digits, short, ok, want)
			}
		}
		if want == nil {
			none++
		}
	}
	if none < 50 || none > 950 {
		t.Error("sets without a full part:", none)
	}
}

func TestSomeShortestTests(t *testing.T) {
	for _, x := range []struct{ digits, test []int }{
		{[]int{0, 1, 2, 3, 4, 5, 6, 7, 8, 9}, []int{1, 2, 5}}, {[]int{9, 8, 7, 6, 5, 4, 3, 2, 1, 0}, []int{1, 2, 5}}, {[]int{5, 2, 1}, []int{1, 2, 5}}, {[]int{5, 5, 2, 2, 1, 1}, []int{1, 2, 5}},
		{[]int{2, 5, 1, 2, 5, 1, 2, 5, 1, 2}, []int{1, 2, 5}}, {[]int{0, 2, 4, 5, 6, 1}, []int{1, 2, 5}}, {[]int{7, 6, 0, 5, 4, 2}, []int{0, 2, 4, 5}}, {[]int{7, 6, 4, 2, 2}, []int{2, 4, 6, 7}}, {nil, nil}, {[]int{8}, nil}, {[]int{8, 1}, nil}, {[]int{8, 8, 8, 8}, nil}, {[]int{0, 1, 3, 4, 6, 7, 8, 9}, nil}, {[]int{2, 3, 0, 8, 9, 6}, nil},
	} {
		if short, ok := impl.ShortestTest(x.digits); ok != (x.test != nil) || !slices.Equal(short, x.test) {
			t.Errorf("the shortest test of %v is %v, %v", x.digits, short, ok)
		}
	}
}

func TestReadStatesHasTheStateUnderWhichTheCellsHaveCome(t *testing.T) {
	for _, test := range manyTests() {
		for _, s := range statesWritten {
			cells := cellsUnder(test, s)
			states, ok := impl.ReadStates(test, cells)
			if !ok || !slices.Contains(states, s) || !slices.Equal(states, statesShowing(test, cells)) {
				t.Fatalf("%v shows %v under %v, and is read as %v, %v", test, cells, s, states, ok)
			}
		}
	}
}

func TestReadStatesOfAllCellsOfOneDigit(t *testing.T) {
	for digit := range 10 {
		for cell := range 128 {
			for _, test := range [][]int{{digit}, {digit, digit}} {
				cells := slices.Repeat([]int{cell}, len(test))
				if states, ok := impl.ReadStates(test, cells); !ok || !slices.Equal(states, statesShowing(test, cells)) {
					t.Fatalf("%v showing %v is read as %v, %v", test, cells, states, ok)
				}
			}
		}
	}
}

func TestReadStatesOfSomeCells(t *testing.T) {
	for _, x := range []struct {
		test, cells []int
		states      []impl.State
	}{
		{nil, nil, statesWritten}, {[]int{}, []int{}, statesWritten}, {[]int{8}, []int{127}, slices.Concat(statesWritten[:1], statesWritten[8:])},
		{[]int{8}, []int{126}, faulty("a", "")}, {[]int{8}, []int{0}, nil}, {[]int{8}, []int{124}, nil}, {[]int{1}, []int{7}, faulty("", "a")},
		{[]int{1, 2, 5}, []int{6, 91, 109}, statesWritten[:1]}, {[]int{1, 2, 5}, []int{4, 89, 109}, faulty("b", "")}, {[]int{1, 2, 5}, []int{4, 91, 109}, nil},
		{[]int{1, 2, 5}, []int{6, 91, 127}, nil}, {[]int{8, 8}, []int{127, 126}, nil}, {[]int{0, 0, 0}, []int{63, 63, 127}, nil}, {[]int{0, 0}, []int{127, 127}, faulty("", "g")},
		{[]int{1, 1, 1, 1, 1, 1, 1, 1, 1, 1}, []int{2, 2, 2, 2, 2, 2, 2, 2, 2, 2}, faulty("c", "")}, {[]int{1, 1, 1, 1, 1, 1, 1, 1, 1, 1}, []int{2, 2, 2, 2, 2, 2, 2, 2, 2, 6}, nil},
		{[]int{0, 7}, []int{0, 7}, nil}, {[]int{1, 8}, []int{127, 6}, nil},
	} {
		if states, ok := impl.ReadStates(x.test, x.cells); !ok || !slices.Equal(states, x.states) {
			t.Errorf("%v showing %v is read as %v, %v", x.test, x.cells, states, ok)
		}
	}
}

// invalidReadings returns tests and cells that cannot be read: lists of other lengths, cells that are none, and lists that are no tests.
func invalidReadings() [][2][]int {
	all := [][2][]int{{nil, {0}}, {{1}, nil}, {{8}, {127, 0}}, {{8, 8}, {127}}, {{1, 2, 5}, {6, 91}}, {{1, 2, 5}, {6, 91, 109, 0}}, {{1, 2, 5}, {6, 91, 109, 109}}, {{8}, make([]int, 100000)}}
	for size := range 10 {
		test := []int{0, 1, 2, 3, 4, 5, 6, 7, 8, 9}
		all = append(all, [2][]int{test[:size+1], digitNumbers[:size]}, [2][]int{test[:size], digitNumbers[:size+1]})
		for _, no := range noCells {
			cells := slices.Clone(digitNumbers)
			cells[size] = no
			all = append(all, [2][]int{test, cells}, [2][]int{test[:size+1], cells[:size+1]})
		}
	}
	for _, test := range noTests {
		cells := make([]int, len(test))
		for place, digit := range test {
			if digit >= 0 && digit < 10 {
				cells[place] = digitNumbers[digit]
			}
		}
		all = append(all, [2][]int{test, cells}, [2][]int{test, nil})
	}
	return all
}

func TestReadStatesFails(t *testing.T) {
	for _, x := range invalidReadings() {
		if states, ok := impl.ReadStates(x[0], x[1]); ok || len(states) != 0 {
			t.Errorf("%.60s showing %.60s is read as %v, %v", fmt.Sprint(x[0]), fmt.Sprint(x[1]), states, ok)
		}
	}
}

func TestChangesOf(t *testing.T) {
	for _, test := range manyTests() {
		other := backwards(test, func(digit int) int { return digit })
		changes, one := impl.ChangesOf(test)
		back, two := impl.ChangesOf(other)
		if want := costByHand(test, false); !one || !two || changes != want || back != want {
			t.Fatalf("the changes of %v are %d, %v, and the other way round %d, %v, not %d", test, changes, one, back, two, want)
		}
	}
	for want, test := range map[int][]int{
		0: {7, 7, 7, 7, 7, 7, 7, 7, 7, 7}, 9: {1, 2, 5}, 6: {1, 1, 6, 6, 6}, 10: {1, 8, 8, 1}, 28: {0, 1, 2, 3, 4, 5, 6, 7, 8, 9}, 54: {1, 6, 1, 6, 1, 6, 1, 6, 1, 6},
	} {
		if changes, ok := impl.ChangesOf(test); !ok || changes != want {
			t.Errorf("the changes of %v are %d, %v", test, changes, ok)
		}
	}
	for _, test := range [][]int{nil, {}, {0}, {9}} {
		if changes, ok := impl.ChangesOf(test); !ok || changes != 0 {
			t.Errorf("the changes of %v are %d, %v", test, changes, ok)
		}
	}
}

// risingLists returns all lists of so many digits that never fall.
func risingLists(size int) [][]int {
	lists := [][]int{nil}
	for range size {
		var longer [][]int
		for _, list := range lists {
			for digit := slices.Max(append([]int{0}, list...)); digit < 10; digit++ {
				longer = append(longer, append(slices.Clone(list), digit))
			}
		}
		lists = longer
	}
	return lists
}

func TestQuietOrder(t *testing.T) {
	ties := 0
	for size := range 7 {
		for i, list := range risingLists(size) {
			// Longer lists are many, and take long to be looked at by hand.
			if size == 5 && i%7 != 0 || size == 6 && i%101 != 0 {
				continue
			}
			want, least, many := firstCheapest(list, false)
			for _, digits := range [][]int{list, mixed(list, i), backwards(list, func(digit int) int { return digit })} {
				order, changes, ok := impl.QuietOrder(digits)
				if !ok || changes != least || !slices.Equal(order, want) {
					t.Fatalf("the quiet order of %v is %v, %d, %v, not %v, %d", digits, order, changes, ok, want, least)
				}
			}
			if again, ok := impl.ChangesOf(want); !ok || again != least {
				t.Fatalf("the changes of %v are %d, %v, not %d", want, again, ok, least)
			}
			if len(setByHand(list)) < size && many > 2*size {
				ties++
			}
		}
	}
	if ties < 50 {
		t.Error("too few lists of which several tests have the least changes:", ties)
	}
}

func TestQuietOrderOfDifferentDigitsIsTheLeastOrder(t *testing.T) {
	for i, set := range setsOfDigits() {
		order, changes, one := impl.QuietOrder(mixed(set, i))
		least, cost, two := impl.LeastOrder(set)
		if len(set) <= 6 && (!one || !two || changes != cost || !slices.Equal(order, least)) || len(set) > 6 && (one || changes != 0 || len(order) != 0) {
			t.Fatalf("the quiet order of %v is %v, %d, %v", set, order, changes, one)
		}
	}
}

func TestSomeQuietOrders(t *testing.T) {
	for _, x := range []struct {
		digits, order []int
		changes       int
	}{
		{nil, nil, 0}, {[]int{}, nil, 0}, {[]int{4}, []int{4}, 0}, {[]int{4, 4}, []int{4, 4}, 0}, {[]int{5, 5, 5, 5, 5, 5}, []int{5, 5, 5, 5, 5, 5}, 0}, {[]int{6, 1}, []int{1, 6}, 6},
		{[]int{6, 1, 6, 1, 6, 1}, []int{1, 1, 1, 6, 6, 6}, 6}, {[]int{5, 1, 2}, []int{1, 2, 5}, 9}, {[]int{3, 1, 7, 3, 1, 7}, []int{1, 1, 7, 7, 3, 3}, 3}, {[]int{9, 5, 8, 5}, []int{5, 5, 9, 8}, 2},
		{[]int{0, 0, 8, 9, 9, 3}, []int{0, 0, 8, 9, 9, 3}, 3},
	} {
		if order, changes, ok := impl.QuietOrder(x.digits); !ok || changes != x.changes || !slices.Equal(order, x.order) {
			t.Errorf("the quiet order of %v is %v, %d, %v", x.digits, order, changes, ok)
		}
	}
}

func TestQuietOrderFailsForLongerLists(t *testing.T) {
	for size := 7; size <= 12; size++ {
		for digit := range 10 {
			list := slices.Repeat([]int{digit}, size)
			list[digit%size] = 9 - digit
			if order, changes, ok := impl.QuietOrder(list); ok || len(order) != 0 || changes != 0 {
				t.Errorf("the quiet order of %v is %v, %d, %v", list, order, changes, ok)
			}
		}
	}
}

func TestFirstFinding(t *testing.T) {
	for _, test := range manyTests() {
		found, _ := impl.FoundStates(test)
		for _, s := range statesWritten {
			want := placeByHand(test, s)
			place, ok := impl.FirstFinding(test, s)
			if ok != (want >= 0) || place != max(want, 0) || ok != slices.Contains(found, s) {
				t.Fatalf("%v finds %v first at %d, %v, not %d", test, s, place, ok, want)
			}
		}
	}
	for _, x := range []struct {
		test  []int
		s     impl.State
		place int
	}{
		{[]int{1, 2, 5}, impl.State{Bar: 0, Kind: 1}, 1}, {[]int{1, 2, 5}, impl.State{Bar: 0, Kind: 2}, 0}, {[]int{1, 2, 5}, impl.State{Bar: 5, Kind: 1}, 2}, {[]int{1, 1, 1, 1, 1, 1, 1, 1, 1, 8}, impl.State{Bar: 6, Kind: 1}, 9},
		{[]int{1, 2, 5}, impl.State{}, -1}, {nil, impl.State{}, -1}, {nil, impl.State{Bar: 3, Kind: 1}, -1}, {[]int{8, 1, 8}, impl.State{Bar: 1, Kind: 2}, -1}, {[]int{0, 1, 2, 3, 4, 5, 6, 7, 8, 9}, impl.State{}, -1},
	} {
		if place, ok := impl.FirstFinding(x.test, x.s); ok != (x.place >= 0) || place != max(x.place, 0) {
			t.Errorf("%v finds %v first at %d, %v", x.test, x.s, place, ok)
		}
	}
}

func TestFirstFindingFailsForNoStates(t *testing.T) {
	for _, s := range noStates {
		for _, test := range append(slices.Clone(noTests), nil, []int{8}, []int{1, 2, 5}, []int{0, 1, 2, 3, 4, 5, 6, 7, 8, 9}) {
			if place, ok := impl.FirstFinding(test, s); ok || place != 0 {
				t.Errorf("%.60s finds %v first at %d, %v", fmt.Sprint(test), s, place, ok)
			}
		}
	}
}

func TestAllFunctionsFailForNoTests(t *testing.T) {
	all := slices.Clone(noTests)
	for _, no := range noDigits {
		all = append(all, []int{no}, []int{no, 8}, []int{1, 2, 5, no}, []int{1, 2, 3, 4, 5, 6, 7, 8, 9, no})
	}
	for _, test := range all {
		found, a := impl.FoundStates(test)
		hidden, b := impl.HiddenStates(test)
		full, c := impl.IsFullTest(test)
		least, d := impl.IsLeastTest(test)
		short, e := impl.ShortestTest(test)
		changes, f := impl.ChangesOf(test)
		order, few, g := impl.QuietOrder(test)
		if a || b || c || d || e || f || g || len(found) != 0 || len(hidden) != 0 || full || least || len(short) != 0 || changes != 0 || len(order) != 0 || few != 0 {
			t.Errorf("%.60s: %v", fmt.Sprint(test), []any{found, a, hidden, b, full, c, least, d, short, e, changes, f, order, few, g})
		}
		for _, s := range statesWritten {
			if place, ok := impl.FirstFinding(test, s); ok || place != 0 {
				t.Errorf("%.60s finds %v first at %d, %v", fmt.Sprint(test), s, place, ok)
			}
		}
	}
}

func TestArgumentsOfTestsAreNotModified(t *testing.T) {
	for _, digits := range [][]int{{9, 3, 7, 0, 8, 2, 6, 5, 1, 4}, {5, 5, 2, 2, 1, 1, 8}, {2, 1, 5, 10}, {5, 2, 1, -1}, {8}} {
		test, cells := append(slices.Clone(digits), 9, 8, 7), append([]int{109, 91, 127, 128, -1}, digitNumbers...)
		keptTest, keptCells := slices.Clone(test), slices.Clone(cells)
		for size := range len(test) + 1 {
			part := test[:size]
			impl.FoundStates(part)
			impl.HiddenStates(part)
			impl.IsFullTest(part)
			impl.IsLeastTest(part)
			impl.ShortestTest(part)
			impl.ReadStates(part, cells[:size])
			impl.ReadStates(part, cells[5:5+min(size, 10)])
			impl.ChangesOf(part)
			impl.QuietOrder(part)
			impl.FirstFinding(part, impl.State{Bar: 6, Kind: 2})
		}
		if !slices.Equal(test, keptTest) || !slices.Equal(cells, keptCells) {
			t.Error("the arguments are", test, cells, "and were", keptTest, keptCells)
		}
	}
}

func TestResultsOfTestsStandAlone(t *testing.T) {
	given := []int{1, 2, 5}
	calls := map[string]func() ([]int, bool){
		"ShortestTest":     func() ([]int, bool) { return impl.ShortestTest(given) },
		"ShortestTest all": func() ([]int, bool) { return impl.ShortestTest([]int{0, 1, 2, 3, 4, 5, 6, 7, 8, 9}) },
		"ShortestTest no":  func() ([]int, bool) { return impl.ShortestTest(given[:2]) },
		"QuietOrder":       func() ([]int, bool) { order, _, ok := impl.QuietOrder(given); return order, ok },
		"QuietOrder {}":    func() ([]int, bool) { order, _, ok := impl.QuietOrder(given[:0]); return order, ok },
		"QuietOrder 1":     func() ([]int, bool) { order, _, ok := impl.QuietOrder(given[:1]); return order, ok },
		"QuietOrder no":    func() ([]int, bool) { order, _, ok := impl.QuietOrder([]int{10}); return order, ok },
	}
	standAlone(t, given, calls)
	for name, call := range map[string]func() ([]impl.State, bool){
		"FoundStates":    func() ([]impl.State, bool) { return impl.FoundStates(given) },
		"FoundStates no": func() ([]impl.State, bool) { return impl.FoundStates([]int{10}) },
		"HiddenStates":   func() ([]impl.State, bool) { return impl.HiddenStates([]int{8}) },
		"ReadStates":     func() ([]impl.State, bool) { return impl.ReadStates([]int{8}, []int{127}) },
		"ReadStates {}":  func() ([]impl.State, bool) { return impl.ReadStates(nil, nil) },
	} {
		first, ok := call()
		kept := slices.Clone(first)
		clear(first[:cap(first)])
		if again, fine := call(); ok != fine || !slices.Equal(again, kept) {
			t.Error(name, "is", again, "and was", kept)
		}
	}
}

func TestLeastTestsShareNoMemory(t *testing.T) {
	least := impl.LeastTests()
	for i := range least {
		spoil(least[i])
		if !alike(least[i+1:], leastWritten[i+1:]) {
			t.Fatal("least tests share memory:", least)
		}
	}
	clear(least[:cap(least)])
	if again := impl.LeastTests(); !alike(again, leastWritten) {
		t.Error("LeastTests is", again)
	}
}

// answersOfTests returns what all functions of the chapter return for States, numbers, tests and cells of all sorts.
func answersOfTests() []any {
	var all []any
	tell := func(x ...any) { all = append(all, fmt.Sprint(x...)) }
	tell(impl.LeastTests())
	for _, s := range slices.Concat(statesWritten, noStates) {
		f, ok := impl.FaultOfState(s)
		tell(impl.IsState(s), f, ok)
	}
	for _, k := range slices.Concat(noCells, noDigits, []int{0, 1, 2, 3, 4, 5, 6, 7, 8, 9, 10, 11}) {
		count, ok := impl.CountFullTests(k)
		tell(count, ok)
	}
	for i, test := range slices.Concat(manyTests(), noTests) {
		found, one := impl.FoundStates(test)
		hidden, two := impl.HiddenStates(test)
		full, three := impl.IsFullTest(test)
		least, four := impl.IsLeastTest(test)
		changes, five := impl.ChangesOf(test)
		order, few, six := impl.QuietOrder(test)
		place, seven := impl.FirstFinding(test, slices.Concat(statesWritten, noStates)[i%40])
		states, eight := impl.ReadStates(test, digitNumbers[:min(len(test), 10)])
		tell(found, hidden, full, least, changes, order, few, place, states, one, two, three, four, five, six, seven, eight)
		if i%10 == 0 {
			short, ok := impl.ShortestTest(test)
			tell(short, ok)
		}
	}
	for _, x := range invalidReadings() {
		states, ok := impl.ReadStates(x[0], x[1])
		tell(states, ok)
	}
	return all
}

func TestTestsReturnTheSameForAllArguments(t *testing.T) {
	if !reflect.DeepEqual(answersOfTests(), answersOfTests()) {
		t.Error("other results for the same arguments")
	}
}
