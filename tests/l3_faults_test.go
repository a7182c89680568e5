package tests

import (
	"fmt"
	"math"
	"reflect"
	"slices"
	"strings"
	"testing"

	"loop.example/g01265/impl"
)

// noFaults are Faults that are not valid: with a bar in both, or with numbers that are no cells.
var noFaults = []impl.Fault{
	{Dark: 1, Lit: 1}, {Dark: 64, Lit: 64}, {Dark: 3, Lit: 1}, {Dark: 1, Lit: 3}, {Dark: 127, Lit: 127}, {Dark: 127, Lit: 64},
	{Dark: 32, Lit: 127}, {Dark: 128}, {Lit: 128}, {Dark: 128, Lit: 1}, {Dark: 1, Lit: 256}, {Dark: -1}, {Lit: -1},
	{Dark: -128}, {Lit: -128}, {Dark: -128, Lit: 127}, {Dark: math.MaxInt}, {Lit: math.MaxInt}, {Dark: math.MinInt},
	{Lit: math.MinInt}, {Dark: math.MinInt, Lit: math.MaxInt}, {Dark: 1 << 32}, {Lit: 1<<32 + 1},
}

// noDigits are numbers that are no digits.
var noDigits = []int{-1, -9, -10, 10, 11, 63, 127, 256, 1 << 32, math.MaxInt, math.MinInt}

// faultsByHand returns all valid Faults, in order: each bar is good, dark or lit.
func faultsByHand() []impl.Fault {
	all := []impl.Fault{{}}
	for _, bar := range []int{1, 2, 4, 8, 16, 32, 64} {
		for _, f := range slices.Clone(all) {
			all = append(all, impl.Fault{Dark: f.Dark + bar, Lit: f.Lit}, impl.Fault{Dark: f.Dark, Lit: f.Lit + bar})
		}
	}
	slices.SortFunc(all, func(f, g impl.Fault) int {
		return slices.Compare([]int{f.Dark, f.Lit}, []int{g.Dark, g.Lit})
	})
	return all
}

// cellWith returns the cell whose bars are those letters for which lights answers true.
func cellWith(lights func(letter string) bool) int {
	cell := 0
	for i, letter := range strings.Split("abcdefg", "") {
		if lights(letter) {
			cell += []int{1, 2, 4, 8, 16, 32, 64}[i]
		}
	}
	return cell
}

// shownByHand returns what a cell shows under a Fault, letter by letter.
func shownByHand(f impl.Fault, c int) int {
	dark, lit, sent := lettersOf(f.Dark), lettersOf(f.Lit), lettersOf(c)
	return cellWith(func(letter string) bool {
		return strings.Contains(lit, letter) || strings.Contains(sent, letter) && !strings.Contains(dark, letter)
	})
}

// imagesByHand returns what the ten digits show under a Fault.
func imagesByHand(f impl.Fault) []int {
	var images []int
	for _, c := range digitNumbers {
		images = append(images, shownByHand(f, c))
	}
	return images
}

// placesOf returns all places of a list at which x is.
func placesOf(list []int, x int) []int {
	var places []int
	for i, y := range list {
		if x == y {
			places = append(places, i)
		}
	}
	return places
}

// alike tells lists of lists, where nil and empty ones are the same.
func alike(a, b [][]int) bool {
	return slices.EqualFunc(a, b, func(x, y []int) bool { return slices.Equal(x, y) })
}

func TestIsFault(t *testing.T) {
	valid := 0
	for dark := -3; dark < 132; dark++ {
		for lit := -3; lit < 132; lit++ {
			f := impl.Fault{Dark: dark, Lit: lit}
			want := dark >= 0 && lit >= 0 && dark <= 127 && lit <= 127
			if want {
				want = !strings.ContainsAny(lettersOf(dark), lettersOf(lit))
			}
			if impl.IsFault(f) != want {
				t.Fatal("IsFault of", f, "is not", want)
			}
			if want {
				valid++
			}
		}
	}
	if valid != 2187 || len(faultsByHand()) != valid {
		t.Error("valid Faults:", valid)
	}
	for _, f := range noFaults {
		if impl.IsFault(f) {
			t.Error("no Fault:", f)
		}
	}
	for _, f := range []impl.Fault{{}, {Dark: 127}, {Lit: 127}, {Dark: 85, Lit: 42}, {Dark: 64, Lit: 63}} {
		if !impl.IsFault(f) {
			t.Error("a Fault:", f)
		}
	}
}

func TestShownCell(t *testing.T) {
	for _, f := range faultsByHand() {
		for c := range 128 {
			shown, ok := impl.ShownCell(f, c)
			if !ok || shown != shownByHand(f, c) {
				t.Fatalf("%d under %v shows %d, %v", c, f, shown, ok)
			}
			if again, ok := impl.ShownCell(f, shown); !ok || again != shown {
				t.Fatalf("%d under %v shows %d, which shows %d, %v", c, f, shown, again, ok)
			}
		}
	}
	for c := range 128 {
		good, one := impl.ShownCell(impl.Fault{}, c)
		dark, two := impl.ShownCell(impl.Fault{Dark: 127}, c)
		lit, three := impl.ShownCell(impl.Fault{Lit: 127}, c)
		both, four := impl.ShownCell(impl.Fault{Dark: 120, Lit: 7}, c)
		if !one || !two || !three || !four || good != c || dark != 0 || lit != 127 || both != 7 {
			t.Errorf("the cell %d shows %d, %d, %d, %d", c, good, dark, lit, both)
		}
	}
}

func TestShownCellFails(t *testing.T) {
	for _, c := range append([]int{0, 127, 63}, noCells...) {
		for _, f := range noFaults {
			if shown, ok := impl.ShownCell(f, c); ok || shown != 0 {
				t.Errorf("%d under %v shows %d, %v", c, f, shown, ok)
			}
		}
	}
	for _, c := range noCells {
		for _, f := range []impl.Fault{{}, {Dark: 127}, {Lit: 127}, {Dark: 64, Lit: 1}} {
			if shown, ok := impl.ShownCell(f, c); ok || shown != 0 {
				t.Errorf("%d under %v shows %d, %v", c, f, shown, ok)
			}
		}
	}
}

// faultsFor returns as many Faults as are wanted, others for each number.
func faultsFor(size int, number int) []impl.Fault {
	all := faultsByHand()
	faults := make([]impl.Fault, size)
	for i := range faults {
		faults[i] = all[(number*(17+i)+i*i*311+size)%len(all)]
	}
	return faults
}

func TestShownRow(t *testing.T) {
	for i, r := range manyRows() {
		faults := faultsFor(len(r), i)
		var want []int
		for k, c := range r {
			want = append(want, shownByHand(faults[k], c))
		}
		shown, ok := impl.ShownRow(faults, r)
		if !ok || !slices.Equal(shown, want) {
			t.Fatalf("%v under %v shows %v, %v", r, faults, shown, ok)
		}
		if again, ok := impl.ShownRow(faults, shown); !ok || !slices.Equal(again, shown) {
			t.Fatalf("%v under %v shows %v, %v", shown, faults, again, ok)
		}
	}
	shown, ok := impl.ShownRow([]impl.Fault{{Dark: 1}, {}, {Lit: 64}, {Dark: 127}, {Lit: 127}, {Dark: 6, Lit: 8}}, []int{127, 6, 63, 127, 0, 6})
	if !ok || !slices.Equal(shown, []int{126, 6, 127, 0, 127, 8}) {
		t.Error("shown", shown, ok)
	}
	if shown, ok := impl.ShownRow(nil, nil); !ok || len(shown) != 0 {
		t.Error("the empty row shows", shown, ok)
	}
}

// faultyRow is a list of Faults and a row.
type faultyRow struct {
	faults []impl.Fault
	row    []int
}

// invalidRows returns Faults and rows of which one is not valid, or of which there are not as many.
func invalidRows() []faultyRow {
	var all []faultyRow
	for _, r := range noRows {
		all = append(all, faultyRow{make([]impl.Fault, len(r)), r}, faultyRow{nil, r}, faultyRow{make([]impl.Fault, 6), r})
	}
	for size := range impl.MaxCells + 1 {
		for many := range impl.MaxCells + 3 {
			if many != size {
				all = append(all, faultyRow{make([]impl.Fault, many), make([]int, size)})
			}
		}
		for place := range size {
			for _, no := range noFaults {
				faults := make([]impl.Fault, size)
				faults[place] = no
				all = append(all, faultyRow{faults, slices.Repeat([]int{63}, size)})
			}
			for _, no := range noCells {
				row := make([]int, size)
				row[place] = no
				all = append(all, faultyRow{slices.Repeat([]impl.Fault{{Dark: 127}}, size), row})
			}
		}
	}
	return append(all, faultyRow{make([]impl.Fault, 7), slices.Repeat([]int{63}, 7)}, faultyRow{make([]impl.Fault, 100000), nil})
}

func TestInvalidRowsOfFaultsFail(t *testing.T) {
	for _, x := range invalidRows() {
		shown, one := impl.ShownRow(x.faults, x.row)
		many, two := impl.CountNumbers(x.faults, x.row)
		first, three := impl.FirstNumber(x.faults, x.row)
		if one || two || three || len(shown) != 0 || many != 0 || len(first) != 0 {
			t.Errorf("%.60s and %.60s: %v, %v, %d, %v, %v, %v", fmt.Sprint(x.faults), fmt.Sprint(x.row), shown, one, many, two, first, three)
		}
	}
}

func TestDigitsUnderAllFaults(t *testing.T) {
	for _, f := range faultsByHand() {
		images := imagesByHand(f)
		var told []int
		var groups [][]int
		different := map[int]bool{}
		for digit, image := range images {
			same := placesOf(images, image)
			if len(same) == 1 {
				told = append(told, digit)
			} else if same[0] == digit {
				groups = append(groups, same)
			}
			different[image] = true
		}
		gotTold, one := impl.ToldDigits(f)
		gotGroups, two := impl.ConfusedDigits(f)
		many, three := impl.CountImages(f)
		harmless, four := impl.IsHarmless(f)
		if !one || !two || !three || !four || !slices.Equal(gotTold, told) || !alike(gotGroups, groups) || many != len(different) || harmless != (len(told) == 10) {
			t.Fatalf("%v: told %v, confused %v, images %d, harmless %v", f, gotTold, gotGroups, many, harmless)
		}
		for c := range 128 {
			if digits, ok := impl.DigitsShown(f, c); !ok || !slices.Equal(digits, placesOf(images, c)) {
				t.Fatalf("%d under %v is shown by %v, %v", c, f, digits, ok)
			}
		}
	}
}

func TestDigitsAreToldOrConfused(t *testing.T) {
	for _, f := range faultsByHand() {
		told, _ := impl.ToldDigits(f)
		groups, _ := impl.ConfusedDigits(f)
		all := slices.Sorted(slices.Values(slices.Concat(append(groups, told)...)))
		if !slices.Equal(all, []int{0, 1, 2, 3, 4, 5, 6, 7, 8, 9}) {
			t.Fatalf("%v: told %v, confused %v", f, told, groups)
		}
	}
}

func TestDigitsUnderSomeFaults(t *testing.T) {
	for f, want := range map[impl.Fault]string{
		{}:                   "[0 1 2 3 4 5 6 7 8 9] [] 10 true",
		{Dark: 127}:          "[] [[0 1 2 3 4 5 6 7 8 9]] 1 false",
		{Lit: 127}:           "[] [[0 1 2 3 4 5 6 7 8 9]] 1 false",
		{Dark: 64, Lit: 63}:  "[] [[0 1 2 3 4 5 6 7 8 9]] 1 false",
		{Dark: 85, Lit: 42}:  "[] [[0 1 2 3 4 5 6 7 8 9]] 1 false",
		{Dark: 64}:           "[1 2 3 4 5 6 7 9] [[0 8]] 9 false",
		{Lit: 64}:            "[1 2 3 4 5 6 7 9] [[0 8]] 9 false",
		{Dark: 1}:            "[0 2 3 4 5 6 8 9] [[1 7]] 9 false",
		{Dark: 8}:            "[0 1 2 3 4 5 6 7 8 9] [] 10 true",
		{Lit: 4}:             "[0 1 2 3 4 5 6 7 8 9] [] 10 true",
		{Dark: 2}:            "[0 1 2 3 4 7] [[5 9] [6 8]] 8 false",
		{Dark: 126}:          "[] [[0 2 3 5 6 7 8 9] [1 4]] 2 false",
		{Lit: 126}:           "[] [[0 2 3 5 6 7 8 9] [1 4]] 2 false",
		{Dark: 1, Lit: 64}:   "[2 3 4 5 6 9] [[0 8] [1 7]] 8 false",
		{Dark: 119, Lit: 8}:  "[] [[0 1 2 3 4 5 6 7 8 9]] 1 false",
		{Dark: 123, Lit: 0}:  "[2] [[0 1 3 4 5 6 7 8 9]] 2 false",
		{Dark: 32, Lit: 95}:  "[] [[0 1 2 3 4 5 6 7 8 9]] 1 false",
		{Dark: 29, Lit: 2}:   "[0] [[1 7] [2 3] [4 5 6 8 9]] 4 false",
		{Dark: 95, Lit: 0}:   "[] [[0 4 5 6 8 9] [1 2 3 7]] 2 false",
		{Dark: 111, Lit: 16}: "[] [[0 1 2 3 4 5 6 7 8 9]] 1 false",
	} {
		told, _ := impl.ToldDigits(f)
		groups, _ := impl.ConfusedDigits(f)
		images, _ := impl.CountImages(f)
		harmless, _ := impl.IsHarmless(f)
		if got := fmt.Sprint(told, groups, images, harmless); got != want {
			t.Errorf("%v: %s and not %s", f, got, want)
		}
	}
}

func TestDigitsShown(t *testing.T) {
	for _, x := range []struct {
		fault impl.Fault
		cell  int
		want  []int
	}{
		{impl.Fault{}, 63, []int{0}}, {impl.Fault{}, 0, nil}, {impl.Fault{}, 48, nil}, {impl.Fault{}, 111, []int{9}},
		{impl.Fault{Dark: 64}, 63, []int{0, 8}}, {impl.Fault{Dark: 64}, 127, nil}, {impl.Fault{Lit: 64}, 63, nil},
		{impl.Fault{Lit: 64}, 127, []int{0, 8}}, {impl.Fault{Dark: 127}, 0, []int{0, 1, 2, 3, 4, 5, 6, 7, 8, 9}},
		{impl.Fault{Dark: 127}, 1, nil}, {impl.Fault{Lit: 127}, 127, []int{0, 1, 2, 3, 4, 5, 6, 7, 8, 9}}, {impl.Fault{Lit: 127}, 126, nil},
		{impl.Fault{Dark: 2}, 109, []int{5, 9}}, {impl.Fault{Dark: 2}, 125, []int{6, 8}}, {impl.Fault{Dark: 1}, 6, []int{1, 7}},
	} {
		if digits, ok := impl.DigitsShown(x.fault, x.cell); !ok || !slices.Equal(digits, x.want) {
			t.Errorf("%d under %v is shown by %v, %v", x.cell, x.fault, digits, ok)
		}
	}
}

func TestInvalidFaultsFail(t *testing.T) {
	for _, f := range noFaults {
		digits, one := impl.DigitsShown(f, 63)
		told, two := impl.ToldDigits(f)
		groups, three := impl.ConfusedDigits(f)
		images, four := impl.CountImages(f)
		harmless, five := impl.IsHarmless(f)
		turned, six := impl.TurnFault(f)
		if one || two || three || four || five || six || len(digits) != 0 || len(told) != 0 || len(groups) != 0 || images != 0 || harmless || turned != (impl.Fault{}) {
			t.Error("no Fault", f, digits, told, groups, images, harmless, turned)
		}
	}
	for _, c := range noCells {
		for _, f := range []impl.Fault{{}, {Dark: 127}, {Lit: 127}} {
			if digits, ok := impl.DigitsShown(f, c); ok || len(digits) != 0 {
				t.Errorf("no cell %d under %v is shown by %v, %v", c, f, digits, ok)
			}
		}
	}
}

func TestCountHarmless(t *testing.T) {
	want := make([]int, 8)
	for _, f := range faultsByHand() {
		images := imagesByHand(f)
		slices.Sort(images)
		if len(slices.Compact(images)) == 10 {
			want[len(lettersOf(f.Dark))+len(lettersOf(f.Lit))]++
		}
	}
	if !slices.Equal(want, []int{1, 4, 4, 0, 0, 0, 0, 0}) {
		t.Error("harmless by hand:", want)
	}
	for size, many := range want {
		if got, ok := impl.CountHarmless(size); !ok || got != many {
			t.Errorf("CountHarmless(%d) = %d, %v, not %d", size, got, ok, many)
		}
	}
	for _, size := range []int{-1, -7, 8, 9, 14, 127, 1 << 32, math.MaxInt, math.MinInt} {
		if got, ok := impl.CountHarmless(size); ok || got != 0 {
			t.Errorf("CountHarmless(%d) = %d, %v", size, got, ok)
		}
	}
}

// listsShown returns all lists of digits that show a row, in order, by showing all lists.
func listsShown(faults []impl.Fault, r []int) [][]int {
	lists := [][]int{nil}
	for i := range r {
		var longer [][]int
		for _, list := range lists {
			for digit, c := range digitNumbers {
				if shownByHand(faults[i], c) == r[i] {
					longer = append(longer, append(slices.Clone(list), digit))
				}
			}
		}
		lists = longer
	}
	return lists
}

func TestNumbersOfRows(t *testing.T) {
	all := faultsByHand()
	for i := range 3000 {
		size := 1 + i%4
		faults, row := make([]impl.Fault, size), make([]int, size)
		for k := range size {
			faults[k] = all[(i*i*7+k*k*977+i*k*31)%len(all)]
			row[k] = shownByHand(faults[k], digitNumbers[(i*3+k*7)%10])
		}
		if i%5 == 0 {
			row[i%size] = (i * 11) % 128
		}
		lists := listsShown(faults, row)
		many, ok := impl.CountNumbers(faults, row)
		if !ok || many != len(lists) {
			t.Fatalf("%v under %v stands for %d, %v, not %d", row, faults, many, ok, len(lists))
		}
		first, ok := impl.FirstNumber(faults, row)
		if ok != (len(lists) > 0) || ok && !slices.Equal(first, lists[0]) || !ok && len(first) != 0 {
			t.Fatalf("%v under %v stands first for %v, %v", row, faults, first, ok)
		}
	}
}

func TestNumbersOfSomeRows(t *testing.T) {
	blank, full, middle := impl.Fault{Dark: 127}, impl.Fault{Lit: 127}, impl.Fault{Dark: 64}
	for _, x := range []struct {
		faults []impl.Fault
		row    []int
		many   int
		first  []int
	}{
		{[]impl.Fault{{}}, []int{63}, 1, []int{0}},
		{[]impl.Fault{{}}, []int{111}, 1, []int{9}},
		{[]impl.Fault{{}}, []int{0}, 0, nil},
		{[]impl.Fault{blank}, []int{0}, 10, []int{0}},
		{[]impl.Fault{blank}, []int{1}, 0, nil},
		{[]impl.Fault{full}, []int{127}, 10, []int{0}},
		{[]impl.Fault{middle, {}}, []int{63, 6}, 2, []int{0, 1}},
		{[]impl.Fault{{}, middle}, []int{6, 63}, 2, []int{1, 0}},
		{[]impl.Fault{middle, {}}, []int{63, 64}, 0, nil},
		{[]impl.Fault{middle, {}}, []int{127, 63}, 0, nil},
		{[]impl.Fault{{Dark: 2}, {Dark: 2}, {Dark: 1}}, []int{109, 125, 6}, 8, []int{5, 6, 1}},
		{slices.Repeat([]impl.Fault{blank}, 6), make([]int, 6), 1000000, make([]int, 6)},
		{slices.Repeat([]impl.Fault{full}, 6), slices.Repeat([]int{127}, 6), 1000000, make([]int, 6)},
		{slices.Repeat([]impl.Fault{blank}, 6), []int{0, 0, 0, 0, 0, 8}, 0, nil},
		{slices.Repeat([]impl.Fault{blank}, 6), []int{8, 0, 0, 0, 0, 0}, 0, nil},
		{make([]impl.Fault, 6), []int{6, 91, 79, 102, 109, 125}, 1, []int{1, 2, 3, 4, 5, 6}},
	} {
		many, ok := impl.CountNumbers(x.faults, x.row)
		first, fine := impl.FirstNumber(x.faults, x.row)
		if !ok || many != x.many || fine != (x.many > 0) || !slices.Equal(first, x.first) {
			t.Errorf("%v under %v stands for %d, %v, first %v, %v", x.row, x.faults, many, ok, first, fine)
		}
	}
}

func TestTheEmptyRowStandsForNoNumber(t *testing.T) {
	for _, faults := range [][]impl.Fault{nil, {}, {{}}} {
		many, ok := impl.CountNumbers(faults, []int{})
		first, fine := impl.FirstNumber(faults, nil)
		if ok || fine || many != 0 || len(first) != 0 {
			t.Error("the empty row stands for", many, ok, first, fine)
		}
	}
}

// faultsShowing returns all Faults under which digits show cells, in order.
func faultsShowing(digits, cells []int) []impl.Fault {
	var found []impl.Fault
	for _, f := range faultsByHand() {
		fits := true
		for i, digit := range digits {
			fits = fits && shownByHand(f, digitNumbers[digit]) == cells[i]
		}
		if fits {
			found = append(found, f)
		}
	}
	return found
}

func TestFaultsOfOneDigit(t *testing.T) {
	images := map[[2]int][]impl.Fault{}
	for _, f := range faultsByHand() {
		for digit, image := range imagesByHand(f) {
			images[[2]int{digit, image}] = append(images[[2]int{digit, image}], f)
		}
	}
	for digit := range 10 {
		for c := range 128 {
			found, ok := impl.FaultsOf([]int{digit}, []int{c})
			if !ok || !slices.Equal(found, images[[2]int{digit, c}]) {
				t.Fatalf("%d shows %d under %d Faults, %v", digit, c, len(found), ok)
			}
		}
	}
}

func TestFaultsOfManyDigits(t *testing.T) {
	all := faultsByHand()
	for i := range 60 {
		f := all[(i*733+5)%len(all)]
		digits, cells := make([]int, 1+i%10), make([]int, 1+i%10)
		for k := range digits {
			digits[k] = (i*i + k*(i%3+2)) % 10
			cells[k] = shownByHand(f, digitNumbers[digits[k]])
		}
		if i%7 == 6 {
			cells[i%len(cells)] ^= 1 << (i % 7)
		}
		found, ok := impl.FaultsOf(digits, cells)
		if !ok || !slices.Equal(found, faultsShowing(digits, cells)) {
			t.Fatalf("%v show %v under %v, %v", digits, cells, found, ok)
		}
	}
}

func TestEachFaultIsFoundByWhatIsShown(t *testing.T) {
	for i, f := range faultsByHand() {
		digits, cells := []int{}, []int{}
		for k := range 1 + i%10 {
			digit := (i + 3*k) % 10
			cell, _ := impl.CellOf(digit)
			shown, _ := impl.ShownCell(f, cell)
			digits, cells = append(digits, digit), append(cells, shown)
		}
		if found, ok := impl.FaultsOf(digits, cells); !ok || !slices.Contains(found, f) {
			t.Fatalf("%v show %v, but %v is not found, %v", digits, cells, f, ok)
		}
	}
}

func TestFaultsOfSomeDigits(t *testing.T) {
	ten := []int{0, 1, 2, 3, 4, 5, 6, 7, 8, 9}
	for _, x := range []struct {
		digits, cells []int
		want          []impl.Fault
	}{
		{ten, digitNumbers, []impl.Fault{{}}},
		{ten, make([]int, 10), []impl.Fault{{Dark: 127}}},
		{ten, slices.Repeat([]int{127}, 10), []impl.Fault{{Lit: 127}}},
		{slices.Repeat([]int{8}, 10), slices.Repeat([]int{0}, 10), []impl.Fault{{Dark: 127}}},
		{[]int{8}, []int{0}, []impl.Fault{{Dark: 127}}},
		{[]int{8, 8}, []int{0, 1}, nil},
		{[]int{8, 1}, []int{127, 7}, []impl.Fault{{Lit: 1}, {Lit: 3}, {Lit: 5}, {Lit: 7}}},
		{[]int{8, 1}, []int{126, 6}, []impl.Fault{{Dark: 1}, {Dark: 1, Lit: 2}, {Dark: 1, Lit: 4}, {Dark: 1, Lit: 6}}},
		{[]int{8, 1}, []int{126, 7}, nil},
		{[]int{1}, []int{121}, []impl.Fault{{Dark: 6, Lit: 121}}},
	} {
		found, ok := impl.FaultsOf(x.digits, x.cells)
		if !ok || !slices.Equal(found, x.want) {
			t.Errorf("%v show %v under %v, %v", x.digits, x.cells, found, ok)
		}
	}
}

func TestFaultsOfInvalidLists(t *testing.T) {
	type lists struct{ digits, cells []int }
	all := []lists{
		{nil, nil}, {[]int{}, []int{}}, {nil, []int{63}}, {[]int{0}, nil}, {[]int{0, 1}, []int{63}}, {[]int{0}, []int{63, 6}},
		{make([]int, 11), slices.Repeat([]int{63}, 11)}, {make([]int, 12), make([]int, 12)}, {make([]int, 10), slices.Repeat([]int{63}, 11)},
		{make([]int, 11), slices.Repeat([]int{63}, 10)}, {make([]int, 9), slices.Repeat([]int{63}, 10)}, {make([]int, 100000), make([]int, 100000)},
	}
	for _, no := range noDigits {
		all = append(all, lists{[]int{no}, []int{63}}, lists{[]int{0, no}, []int{63, 0}}, lists{[]int{no, 0}, []int{0, 63}})
	}
	for _, no := range noCells {
		all = append(all, lists{[]int{0}, []int{no}}, lists{[]int{0, 1}, []int{63, no}}, lists{[]int{1, 0}, []int{no, 63}})
	}
	for _, x := range all {
		if found, ok := impl.FaultsOf(x.digits, x.cells); ok || len(found) != 0 {
			t.Errorf("%.60s and %.60s: %d Faults, %v", fmt.Sprint(x.digits), fmt.Sprint(x.cells), len(found), ok)
		}
	}
}

func TestJoinFaults(t *testing.T) {
	all := faultsByHand()
	for _, f := range all {
		for k := range 40 {
			g := all[(k*k*53+k*7+f.Dark*3+f.Lit)%len(all)]
			dark, lit := lettersOf(f.Dark)+lettersOf(g.Dark), lettersOf(f.Lit)+lettersOf(g.Lit)
			want := impl.Fault{}
			fits := !strings.ContainsAny(dark, lit)
			if fits {
				want.Dark = cellWith(func(letter string) bool { return strings.Contains(dark, letter) })
				want.Lit = cellWith(func(letter string) bool { return strings.Contains(lit, letter) })
			}
			joined, ok := impl.JoinFaults(f, g)
			back, fine := impl.JoinFaults(g, f)
			if ok != fits || fine != fits || joined != want || back != want {
				t.Fatalf("%v and %v: %v, %v and %v, %v", f, g, joined, ok, back, fine)
			}
		}
		same, one := impl.JoinFaults(f, f)
		alone, two := impl.JoinFaults(impl.Fault{}, f)
		if !one || !two || same != f || alone != f {
			t.Fatalf("%v twice is %v, %v, with none %v, %v", f, same, one, alone, two)
		}
	}
}

func TestJoinFaultsFails(t *testing.T) {
	for _, no := range noFaults {
		for _, f := range append([]impl.Fault{{}, {Dark: 127}, {Lit: 127}, {Dark: 1, Lit: 2}}, noFaults...) {
			joined, ok := impl.JoinFaults(no, f)
			back, fine := impl.JoinFaults(f, no)
			if ok || fine || joined != (impl.Fault{}) || back != (impl.Fault{}) {
				t.Errorf("%v and %v: %v, %v and %v, %v", no, f, joined, ok, back, fine)
			}
		}
	}
	for bar := range impl.Bars {
		if joined, ok := impl.JoinFaults(impl.Fault{Dark: 1 << bar}, impl.Fault{Lit: 1 << bar}); ok || joined != (impl.Fault{}) {
			t.Errorf("the bar %d in both: %v, %v", bar, joined, ok)
		}
	}
}

func TestTurnFault(t *testing.T) {
	for _, f := range faultsByHand() {
		turned, ok := impl.TurnFault(f)
		if !ok || turned != (impl.Fault{Dark: turnedByHand(f.Dark), Lit: turnedByHand(f.Lit)}) {
			t.Fatalf("%v turned is %v, %v", f, turned, ok)
		}
		if back, ok := impl.TurnFault(turned); !ok || back != f {
			t.Fatalf("%v turned twice is %v, %v", f, back, ok)
		}
		for c := range 128 {
			upside, _ := impl.TurnCell(c)
			shown, _ := impl.ShownCell(turned, upside)
			right, _ := impl.ShownCell(f, c)
			if want, ok := impl.TurnCell(right); !ok || shown != want {
				t.Fatalf("%d turned shows %d under %v turned, not %d", c, shown, f, want)
			}
		}
	}
	for f, want := range map[impl.Fault]impl.Fault{
		{}: {}, {Dark: 1}: {Dark: 8}, {Lit: 2}: {Lit: 16}, {Dark: 4, Lit: 64}: {Dark: 32, Lit: 64}, {Dark: 127}: {Dark: 127}, {Lit: 127}: {Lit: 127},
	} {
		if turned, ok := impl.TurnFault(f); !ok || turned != want {
			t.Errorf("%v turned is %v, %v", f, turned, ok)
		}
	}
}

func TestArgumentsOfFaultsAreNotModified(t *testing.T) {
	faults := []impl.Fault{{Dark: 64}, {Lit: 1}, {Dark: 127}, {Dark: 3, Lit: 1}, {Lit: 128}, {}, {}}
	row := []int{63, 7, 0, 91, 128, -1, 6}
	digits := []int{8, 1, 0, 9, 10, -1, 5}
	keptFaults, keptRow, keptDigits := slices.Clone(faults), slices.Clone(row), slices.Clone(digits)
	for size := range len(row) + 1 {
		impl.ShownRow(faults[:size], row[:size])
		impl.CountNumbers(faults[:size], row[:size])
		impl.FirstNumber(faults[:size], row[:size])
		impl.FaultsOf(digits[:size], row[:size])
	}
	if !slices.Equal(faults, keptFaults) || !slices.Equal(row, keptRow) || !slices.Equal(digits, keptDigits) {
		t.Error("the arguments are", faults, row, digits)
	}
}

func TestResultsOfFaultsStandAlone(t *testing.T) {
	faults, row := []impl.Fault{{Dark: 64}, {Dark: 64}}, []int{63, 63}
	calls := map[string]func() ([]int, bool){
		"ShownRow":       func() ([]int, bool) { return impl.ShownRow(faults, row) },
		"ShownRow good":  func() ([]int, bool) { return impl.ShownRow(make([]impl.Fault, 2), row) },
		"ShownRow {}":    func() ([]int, bool) { return impl.ShownRow(faults[:0], row[:0]) },
		"ShownRow no":    func() ([]int, bool) { return impl.ShownRow(faults, row[:1]) },
		"DigitsShown":    func() ([]int, bool) { return impl.DigitsShown(faults[0], 63) },
		"DigitsShown {}": func() ([]int, bool) { return impl.DigitsShown(faults[0], 0) },
		"ToldDigits":     func() ([]int, bool) { return impl.ToldDigits(faults[0]) },
		"ToldDigits {}":  func() ([]int, bool) { return impl.ToldDigits(impl.Fault{Dark: 127}) },
		"FirstNumber":    func() ([]int, bool) { return impl.FirstNumber(faults, row) },
		"FirstNumber no": func() ([]int, bool) { return impl.FirstNumber(faults, []int{63, 64}) },
	}
	standAlone(t, row, calls)
	first, _ := impl.FaultsOf([]int{8, 1}, []int{63, 6})
	kept := slices.Clone(first)
	clear(first[:cap(first)])
	if again, ok := impl.FaultsOf([]int{8, 1}, []int{63, 6}); !ok || !slices.Equal(again, kept) {
		t.Error("FaultsOf is", again, "and was", kept)
	}
}

func TestGroupsShareNoMemory(t *testing.T) {
	for _, f := range faultsByHand() {
		groups, _ := impl.ConfusedDigits(f)
		for i := range groups {
			var kept [][]int
			for _, other := range groups[i+1:] {
				kept = append(kept, slices.Clone(other))
			}
			spoil(groups[i])
			if !alike(groups[i+1:], kept) {
				t.Fatalf("groups of %v share memory: %v", f, groups)
			}
		}
	}
}

// answersOfFaults returns what all functions of the chapter return for Faults, cells, rows and lists of all sorts.
func answersOfFaults() []any {
	var all []any
	tell := func(x ...any) { all = append(all, fmt.Sprint(x...)) }
	for i, f := range slices.Concat(faultsByHand(), noFaults) {
		told, one := impl.ToldDigits(f)
		groups, two := impl.ConfusedDigits(f)
		images, three := impl.CountImages(f)
		harmless, four := impl.IsHarmless(f)
		turned, five := impl.TurnFault(f)
		tell(impl.IsFault(f), told, groups, images, harmless, turned, one, two, three, four, five)
		for _, c := range append([]int{0, 127, i % 128}, noCells...) {
			shown, one := impl.ShownCell(f, c)
			digits, two := impl.DigitsShown(f, c)
			tell(shown, digits, one, two)
		}
		joined, ok := impl.JoinFaults(f, impl.Fault{Dark: i % 130, Lit: 64})
		tell(joined, ok)
	}
	for _, x := range invalidRows() {
		shown, one := impl.ShownRow(x.faults, x.row)
		many, two := impl.CountNumbers(x.faults, x.row)
		first, three := impl.FirstNumber(x.faults, x.row)
		found, four := impl.FaultsOf(x.row, x.row)
		tell(shown, many, first, found, one, two, three, four)
	}
	for size := -2; size < 11; size++ {
		many, ok := impl.CountHarmless(size)
		found, fine := impl.FaultsOf([]int{size}, []int{63})
		tell(many, ok, found, fine)
	}
	return all
}

func TestFaultsReturnTheSameForAllArguments(t *testing.T) {
	if !reflect.DeepEqual(answersOfFaults(), answersOfFaults()) {
		t.Error("other results for the same arguments")
	}
}
