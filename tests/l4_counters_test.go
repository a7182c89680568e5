package tests

import (
	"fmt"
	"math"
	"reflect"
	"slices"
	"strings"
	"testing"

	"loop.example/g01265/impl"
)

// changesWritten is the table of changes, written out by hand.
var changesWritten = [10][10]int{
	{0, 4, 3, 3, 4, 3, 2, 3, 1, 2},
	{4, 0, 5, 3, 2, 5, 6, 1, 5, 4},
	{3, 5, 0, 2, 5, 4, 3, 4, 2, 3},
	{3, 3, 2, 0, 3, 2, 3, 2, 2, 1},
	{4, 2, 5, 3, 0, 3, 4, 3, 3, 2},
	{3, 5, 4, 2, 3, 0, 1, 4, 2, 1},
	{2, 6, 3, 3, 4, 1, 0, 5, 1, 2},
	{3, 1, 4, 2, 3, 4, 5, 0, 4, 3},
	{1, 5, 2, 2, 3, 2, 1, 4, 0, 1},
	{2, 4, 3, 1, 2, 1, 2, 3, 1, 0},
}

// noCounts are numbers of cells that no counter has.
var noCounts = []int{0, -1, -6, 7, 8, 64, 1 << 32, 1<<32 + 1, math.MaxInt, math.MinInt, math.MinInt + 1}

// noRuns are numbers of steps that are not valid for any run.
var noRuns = []int{-1, -1000, 1001, 1002, 1 << 32, 1<<32 + 1, math.MaxInt, math.MinInt, math.MinInt + 1}

// noOrders are lists that are no orders.
var noOrders = [][]int{
	{-1}, {10}, {0, 0}, {9, 9}, {1, 2, 1}, {3, 4, 5, 5}, {0, 10}, {10, 0}, {-1, 5}, {5, -1}, {11, 12}, {10, 10}, {math.MaxInt}, {math.MinInt},
	{1 << 32}, {1<<32 + 1, 1}, {256, 0}, {0, 1, 2, 3, 4, 5, 6, 7, 8, 9, 0}, {0, 1, 2, 3, 4, 5, 6, 7, 8, 8}, {0, 1, 2, 3, 4, 5, 6, 7, 8, 10},
	{9, 8, 7, 6, 5, 4, 3, 2, 1, 0, 10}, {7, 7, 7, 7, 7, 7, 7, 7, 7, 7, 7, 7}, make([]int, 100000),
}

// counterDigits tells what a counter of k cells shows.
func counterDigits(n, k int) string {
	return fmt.Sprintf("%0*d", k, n)
}

// powerOf returns how many numbers a counter of k cells shows.
func powerOf(k int) int {
	return []int{1, 10, 100, 1000, 10000, 100000, 1000000}[k]
}

// barsThatChange returns for each place of two texts of digits the letters that are in just one of both.
func barsThatChange(before, after string) []string {
	var changes []string
	for i := range len(before) {
		one, two := digitLetters[before[i]-'0'], digitLetters[after[i]-'0']
		changes = append(changes, strings.Map(func(letter rune) rune {
			if strings.ContainsRune(one, letter) == strings.ContainsRune(two, letter) {
				return -1
			}
			return letter
		}, "abcdefg"))
	}
	return changes
}

// stepByHand returns the bars that change in each cell of a counter in the step from a number.
func stepByHand(n, k int) []string {
	return barsThatChange(counterDigits(n, k), counterDigits((n+1)%powerOf(k), k))
}

// costByHand returns what the document calls the cost of an order.
func costByHand(order []int, ring bool) int {
	cost := 0
	for i := 1; i < len(order); i++ {
		cost += changesWritten[order[i-1]][order[i]]
	}
	if ring && len(order) > 0 {
		cost += changesWritten[order[len(order)-1]][order[0]]
	}
	return cost
}

// startsOf returns numbers of a counter of k cells: the first ones, the last ones, and others.
func startsOf(k int) []int {
	last := powerOf(k) - 1
	starts := []int{0, 1, 8, last, last - 1, last - 7, last / 2, last / 3, last / 7, last / 10, last - last/10}
	slices.Sort(starts)
	return slices.Compact(slices.DeleteFunc(starts, func(n int) bool { return n < 0 }))
}

// looksAt tells the numbers of steps for which runs are tested: the first ones, the last ones, and others.
func looksAt(steps int) bool {
	return steps < 25 || steps%97 == 0 || steps > impl.MaxSteps-3
}

// setsOfDigits returns all sets of digits, each in ascending order.
func setsOfDigits() [][]int {
	sets := [][]int{nil}
	for digit := range 10 {
		for _, set := range slices.Clone(sets) {
			sets = append(sets, append(slices.Clone(set), digit))
		}
	}
	return sets
}

// ordersOf returns all orders of digits that are in ascending order, in order.
func ordersOf(digits []int) [][]int {
	if len(digits) == 0 {
		return [][]int{nil}
	}
	var all [][]int
	for i, digit := range digits {
		for _, rest := range ordersOf(slices.Delete(slices.Clone(digits), i, i+1)) {
			all = append(all, append([]int{digit}, rest...))
		}
	}
	return all
}

// mixed returns the same digits in another sequence for each number.
func mixed(digits []int, number int) []int {
	out := slices.Clone(digits)
	for i := len(out) - 1; i > 0; i-- {
		k := (number*31 + i*i*7) % (i + 1)
		out[i], out[k] = out[k], out[i]
	}
	return out
}

func TestLimitsOfCounters(t *testing.T) {
	if impl.MaxSteps != 1000 {
		t.Error("MaxSteps", impl.MaxSteps)
	}
}

func TestCounterRow(t *testing.T) {
	for k := 1; k <= impl.MaxCells; k++ {
		for n := 0; n < powerOf(k); n += 1 + n/3000 {
			row, ok := impl.CounterRow(n, k)
			if !ok || !slices.Equal(row, shownBy(counterDigits(n, k))) {
				t.Fatalf("%d of %d cells: %v, %v", n, k, row, ok)
			}
			if number, ok := impl.NumberOf(row); !ok || number != n {
				t.Fatalf("%d of %d cells shows %d, %v", n, k, number, ok)
			}
		}
	}
	for _, x := range []struct {
		n, k int
		want []int
	}{
		{0, 1, []int{63}}, {9, 1, []int{111}}, {0, 6, []int{63, 63, 63, 63, 63, 63}}, {7, 3, []int{63, 63, 7}},
		{999999, 6, []int{111, 111, 111, 111, 111, 111}}, {100000, 6, []int{6, 63, 63, 63, 63, 63}}, {40, 2, []int{102, 63}},
	} {
		if row, ok := impl.CounterRow(x.n, x.k); !ok || !slices.Equal(row, x.want) {
			t.Errorf("%d of %d cells: %v, %v", x.n, x.k, row, ok)
		}
	}
}

func TestStepChanges(t *testing.T) {
	for k := 1; k <= impl.MaxCells; k++ {
		for n := 0; n < powerOf(k); n += 1 + n/2000 {
			want := len(strings.Join(stepByHand(n, k), ""))
			if changes, ok := impl.StepChanges(n, k); !ok || changes != want {
				t.Fatalf("the step from %d of %d cells: %d, %v, not %d", n, k, changes, ok, want)
			}
		}
	}
	for _, x := range [][3]int{
		{0, 1, 4}, {9, 1, 2}, {9, 2, 6}, {99, 2, 4}, {19, 2, 7}, {999999, 6, 12}, {199999, 6, 15}, {0, 6, 4}, {999998, 6, 1}, {99999, 6, 14},
	} {
		if changes, ok := impl.StepChanges(x[0], x[1]); !ok || changes != x[2] {
			t.Errorf("the step from %d of %d cells: %d, %v, not %d", x[0], x[1], changes, ok, x[2])
		}
	}
}

func TestRuns(t *testing.T) {
	for k := 1; k <= impl.MaxCells; k++ {
		for _, from := range startsOf(k) {
			changes, wear, light := 0, make([][7]int, k), 0
			for steps := range impl.MaxSteps + 1 {
				if looksAt(steps) {
					gotChanges, one := impl.RunChanges(from, steps, k)
					gotWear, two := impl.WearOf(from, steps, k)
					gotLight, three := impl.LightOf(from, steps, k)
					if !one || !two || three != (steps > 0) || gotChanges != changes || gotLight != light || !slices.Equal(gotWear, wear) {
						t.Fatalf("%d steps from %d of %d cells: %d, %v, %d, not %d, %v, %d", steps, from, k, gotChanges, gotWear, gotLight, changes, wear, light)
					}
				}
				n := (from + steps) % powerOf(k)
				for place, letters := range stepByHand(n, k) {
					changes += len(letters)
					for _, letter := range letters {
						wear[place][letter-'a']++
					}
				}
				for _, digit := range counterDigits(n, k) {
					light += len(digitLetters[digit-'0'])
				}
			}
		}
	}
}

func TestChangesOfARunAreThoseOfItsStepsAndItsWear(t *testing.T) {
	for k := 1; k <= impl.MaxCells; k++ {
		for _, from := range startsOf(k) {
			for _, steps := range []int{0, 1, 2, 3, 10, 57, 999, 1000} {
				run, _ := impl.RunChanges(from, steps, k)
				wear, _ := impl.WearOf(from, steps, k)
				worn, stepped := 0, 0
				for _, cell := range wear {
					for _, changes := range cell {
						worn += changes
					}
				}
				for i := range steps {
					changes, _ := impl.StepChanges((from+i)%powerOf(k), k)
					stepped += changes
				}
				if run != worn || run != stepped || len(wear) != k {
					t.Errorf("%d steps from %d of %d cells: %d, worn %d, stepped %d", steps, from, k, run, worn, stepped)
				}
			}
		}
	}
}

func TestSomeRuns(t *testing.T) {
	for _, x := range []struct {
		from, steps, k int
		changes, light int
		wear           [][7]int
	}{
		{0, 1, 1, 4, 6, [][7]int{{1, 0, 0, 1, 1, 1, 0}}},
		{9, 1, 1, 2, 6, [][7]int{{0, 0, 0, 0, 1, 0, 1}}},
		{0, 3, 1, 11, 13, [][7]int{{2, 0, 2, 2, 3, 1, 1}}},
		{0, 10, 1, 30, 49, [][7]int{{4, 2, 2, 6, 8, 4, 4}}},
		{0, 1000, 1, 3000, 4900, [][7]int{{400, 200, 200, 600, 800, 400, 400}}},
		{99, 1, 2, 4, 12, [][7]int{{0, 0, 0, 0, 1, 0, 1}, {0, 0, 0, 0, 1, 0, 1}}},
		{99, 2, 2, 8, 24, [][7]int{{0, 0, 0, 0, 1, 0, 1}, {1, 0, 0, 1, 2, 1, 1}}},
		{0, 1000, 2, 3300, 9800, [][7]int{{40, 20, 20, 60, 80, 40, 40}, {400, 200, 200, 600, 800, 400, 400}}},
	} {
		changes, one := impl.RunChanges(x.from, x.steps, x.k)
		light, two := impl.LightOf(x.from, x.steps, x.k)
		wear, three := impl.WearOf(x.from, x.steps, x.k)
		if !one || !two || !three || changes != x.changes || light != x.light || !slices.Equal(wear, x.wear) {
			t.Errorf("%d steps from %d of %d cells: %d, %d, %v", x.steps, x.from, x.k, changes, light, wear)
		}
	}
	for k := 1; k <= impl.MaxCells; k++ {
		if wear, ok := impl.WearOf(powerOf(k)-1, 0, k); !ok || !slices.Equal(wear, make([][7]int, k)) {
			t.Errorf("no step of %d cells wears %v, %v", k, wear, ok)
		}
	}
}

// failsOfCounters tells all functions that do not fail for a number, steps and cells of which one is not valid.
func failsOfCounters(n, steps, k int) string {
	run, one := impl.RunChanges(n, steps, k)
	wear, two := impl.WearOf(n, steps, k)
	light, three := impl.LightOf(n, steps, k)
	if one || two || three || run != 0 || len(wear) != 0 || light != 0 {
		return fmt.Sprint("run, wear or light: ", run, one, wear, two, light, three)
	}
	return ""
}

func TestInvalidNumbersAndCellsOfCountersFail(t *testing.T) {
	type pair struct{ n, k int }
	var all []pair
	for _, k := range noCounts {
		all = append(all, pair{0, k}, pair{1, k}, pair{9, k}, pair{-1, k}, pair{k, k}, pair{math.MaxInt, k})
		if number, changes, ok := impl.MostChanges(k); ok || number != 0 || changes != 0 {
			t.Errorf("the most changes of %d cells: %d, %d, %v", k, number, changes, ok)
		}
	}
	for k := 1; k <= impl.MaxCells; k++ {
		for _, n := range []int{-1, -9, -powerOf(k), powerOf(k), powerOf(k) + 1, 10 * powerOf(k), 1 << 32, math.MaxInt, math.MaxInt - 1, math.MinInt} {
			all = append(all, pair{n, k})
		}
	}
	for _, x := range all {
		row, one := impl.CounterRow(x.n, x.k)
		step, two := impl.StepChanges(x.n, x.k)
		if one || two || len(row) != 0 || step != 0 {
			t.Errorf("%d of %d cells: %v, %v, %d, %v", x.n, x.k, row, one, step, two)
		}
		for _, steps := range append([]int{0, 1, 1000}, noRuns...) {
			if fault := failsOfCounters(x.n, steps, x.k); fault != "" {
				t.Errorf("%d steps from %d of %d cells: %s", steps, x.n, x.k, fault)
			}
			if over, ok := impl.FirstOver(x.n, x.k, steps); ok || over != 0 {
				t.Errorf("%d changes from %d of %d cells: %d, %v", steps, x.n, x.k, over, ok)
			}
		}
	}
}

func TestInvalidStepsFail(t *testing.T) {
	for k := 1; k <= impl.MaxCells; k++ {
		for _, steps := range noRuns {
			for _, n := range startsOf(k) {
				if fault := failsOfCounters(n, steps, k); fault != "" {
					t.Errorf("%d steps from %d of %d cells: %s", steps, n, k, fault)
				}
			}
		}
	}
}

func TestMostChanges(t *testing.T) {
	for k := 1; k <= impl.MaxCells; k++ {
		number, most := 0, 0
		for n := range powerOf(k) {
			// The step changes the digits from the last one on, as far as they go from 9 to 0.
			changes, left, place := 0, n, 0
			for ; place < k && left%10 == 9; place++ {
				changes += changesWritten[9][0]
				left /= 10
			}
			if place < k {
				changes += changesWritten[left%10][left%10+1]
			}
			if changes > most {
				number, most = n, changes
			}
		}
		if got, changes, ok := impl.MostChanges(k); !ok || got != number || changes != most {
			t.Errorf("the most changes of %d cells: %d, %d, %v, not %d, %d", k, got, changes, ok, number, most)
		}
		if changes, ok := impl.StepChanges(number, k); !ok || changes != most {
			t.Errorf("the step from %d of %d cells: %d, %v", number, k, changes, ok)
		}
	}
	for k, want := range []int{1, 19, 199, 1999, 19999, 199999} {
		if number, changes, ok := impl.MostChanges(k + 1); !ok || number != want || changes != 5+2*k {
			t.Errorf("the most changes of %d cells: %d, %d, %v", k+1, number, changes, ok)
		}
	}
}

func TestChangeTable(t *testing.T) {
	if table := impl.ChangeTable(); table != changesWritten {
		t.Error("the table", table)
	}
	for from, row := range impl.ChangeTable() {
		for to, changes := range row {
			if want := len(barsThatChange(fmt.Sprint(from), fmt.Sprint(to))[0]); changes != want {
				t.Errorf("from %d to %d: %d, not %d", from, to, changes, want)
			}
		}
	}
}

func TestBarShares(t *testing.T) {
	all := strings.Join(digitLetters, "")
	for bar, share := range impl.BarShares() {
		if want := strings.Count(all, "abcdefg"[bar:bar+1]); share != want {
			t.Errorf("the bar %d: %d, not %d", bar, share, want)
		}
	}
	if shares := impl.BarShares(); shares != [7]int{8, 8, 9, 7, 4, 6, 7} {
		t.Error("shares", shares)
	}
}

func TestOrderCost(t *testing.T) {
	for _, set := range setsOfDigits() {
		orders := [][]int{set, mixed(set, 1), mixed(set, 2), mixed(set, 5)}
		if len(set) < 5 {
			orders = ordersOf(set)
		}
		for _, order := range orders {
			for _, ring := range []bool{false, true} {
				cost, ok := impl.OrderCost(order, ring)
				if !ok || cost != costByHand(order, ring) {
					t.Fatalf("%v as a ring %v: %d, %v", order, ring, cost, ok)
				}
				other := backwards(order, func(digit int) int { return digit })
				if back, ok := impl.OrderCost(other, ring); !ok || back != cost {
					t.Fatalf("%v as a ring %v: %d, %v, not %d", other, ring, back, ok, cost)
				}
			}
			ring, _ := impl.OrderCost(order, true)
			for begin := range order {
				turned := slices.Concat(order[begin:], order[:begin])
				if cost, ok := impl.OrderCost(turned, true); !ok || cost != ring {
					t.Fatalf("the ring %v: %d, %v, not %d", turned, cost, ok, ring)
				}
			}
		}
	}
}

func TestSomeOrders(t *testing.T) {
	for _, x := range []struct {
		order       []int
		plain, ring int
	}{
		{nil, 0, 0}, {[]int{}, 0, 0}, {[]int{0}, 0, 0}, {[]int{9}, 0, 0}, {[]int{1, 6}, 6, 12}, {[]int{1, 7, 3}, 3, 6}, {[]int{3, 1, 7}, 4, 6},
		{[]int{0, 1, 2, 3, 4, 5, 6, 7, 8, 9}, 28, 30}, {[]int{9, 8, 7, 6, 5, 4, 3, 2, 1, 0}, 28, 30},
	} {
		plain, one := impl.OrderCost(x.order, false)
		ring, two := impl.OrderCost(x.order, true)
		if !one || !two || plain != x.plain || ring != x.ring {
			t.Errorf("%v: %d, %v and %d, %v", x.order, plain, one, ring, two)
		}
	}
}

func TestNoOrdersFail(t *testing.T) {
	all := slices.Clone(noOrders)
	for _, no := range noDigits {
		all = append(all, []int{no}, []int{no, 4}, []int{4, 2, no}, []int{no, no})
	}
	for digit := range 10 {
		all = append(all, []int{digit, digit}, []int{digit, (digit + 3) % 10, digit})
	}
	for _, list := range all {
		plain, one := impl.OrderCost(list, false)
		ring, two := impl.OrderCost(list, true)
		order, least, three := impl.LeastOrder(list)
		circle, round, four := impl.LeastRing(list)
		if one || two || three || four || plain != 0 || ring != 0 || len(order) != 0 || least != 0 || len(circle) != 0 || round != 0 {
			t.Errorf("%.60s: %d, %v, %d, %v, %v, %d, %v, %v, %d, %v", fmt.Sprint(list), plain, one, ring, two, order, least, three, circle, round, four)
		}
	}
}

// firstCheapest returns the first order of least cost of digits that are in ascending order, by looking at all orders, this cost,
// and how many orders have it.
func firstCheapest(digits []int, ring bool) ([]int, int, int) {
	var first []int
	least, many := math.MaxInt, 0
	for _, order := range ordersOf(digits) {
		cost := costByHand(order, ring)
		if cost < least {
			first, least, many = order, cost, 0
		}
		if cost == least {
			many++
		}
	}
	return first, least, many
}

// finder finds first orders of least cost by the least costs of what is left, for sets of digits as bits.
type finder struct {
	ring  bool
	known map[[3]int]int
}

// restOf returns the least cost of the digits that are left after the last one of an order that begins with a digit.
func (f finder) restOf(left, last, first int) int {
	if left == 0 {
		if f.ring {
			return changesWritten[last][first]
		}
		return 0
	}
	key := [3]int{left, last, first}
	if rest, ok := f.known[key]; ok {
		return rest
	}
	least := math.MaxInt
	for digit := range 10 {
		if left>>digit&1 == 1 {
			least = min(least, changesWritten[last][digit]+f.restOf(left-1<<digit, digit, first))
		}
	}
	f.known[key] = least
	return least
}

// find returns the first order of least cost of a set of digits that is not empty, and this cost.
func (f finder) find(digits []int) ([]int, int) {
	set, first, least := 0, 0, math.MaxInt
	for _, digit := range digits {
		set += 1 << digit
	}
	for _, digit := range digits {
		if cost := f.restOf(set-1<<digit, digit, digit); cost < least {
			first, least = digit, cost
		}
	}
	order, left, rest := []int{first}, set-1<<first, least
	for left != 0 {
		last := order[len(order)-1]
		for _, digit := range digits {
			if left>>digit&1 == 0 {
				continue
			}
			if more := f.restOf(left-1<<digit, digit, first); changesWritten[last][digit]+more == rest {
				order, left, rest = append(order, digit), left-1<<digit, more
				break
			}
		}
	}
	return order, least
}

func TestLeastOrdersAndRingsOfAllSets(t *testing.T) {
	plainFinder, ringFinder := finder{false, map[[3]int]int{}}, finder{true, map[[3]int]int{}}
	for i, set := range setsOfDigits() {
		if len(set) == 0 {
			continue
		}
		for _, digits := range [][]int{set, mixed(set, i), backwards(set, func(digit int) int { return digit })} {
			order, least, one := impl.LeastOrder(digits)
			want, cost := plainFinder.find(set)
			if !one || least != cost || !slices.Equal(order, want) {
				t.Fatalf("the least order of %v is %v, %d, %v, not %v, %d", digits, order, least, one, want, cost)
			}
			circle, round, two := impl.LeastRing(digits)
			ring, whole := ringFinder.find(set)
			if !two || round != whole || !slices.Equal(circle, ring) {
				t.Fatalf("the least ring of %v is %v, %d, %v, not %v, %d", digits, circle, round, two, ring, whole)
			}
			if round < least {
				t.Fatalf("the ring of %v costs %d, and the order %d", digits, round, least)
			}
		}
	}
}

func TestLeastOrdersAndRingsCostNoMoreThanOthers(t *testing.T) {
	ties := 0
	for i, set := range setsOfDigits() {
		if len(set) > 5 {
			continue
		}
		first, least, many := firstCheapest(set, false)
		ring, round, more := firstCheapest(set, true)
		order, cost, one := impl.LeastOrder(mixed(set, i))
		circle, whole, two := impl.LeastRing(mixed(set, i))
		if !one || !two || cost != least || whole != round || !slices.Equal(order, first) || !slices.Equal(circle, ring) {
			t.Fatalf("of %v: %v, %d and %v, %d, not %v, %d and %v, %d", set, order, cost, circle, whole, first, least, ring, round)
		}
		again, three := impl.OrderCost(order, false)
		around, four := impl.OrderCost(circle, true)
		if !three || !four || again != cost || around != whole {
			t.Fatalf("%v costs %d, %v, and the ring %v %d, %v", order, again, three, circle, around, four)
		}
		if many > 2 && more > 2*len(set) {
			ties++
		}
	}
	if ties < 10 {
		t.Error("too few sets of which several orders and rings cost the same:", ties)
	}
}

func TestSomeLeastOrdersAndRings(t *testing.T) {
	for _, x := range []struct{ digits, order, ring []int }{
		{nil, nil, nil}, {[]int{7}, []int{7}, []int{7}}, {[]int{0}, []int{0}, []int{0}}, {[]int{6, 1}, []int{1, 6}, []int{1, 6}},
		{[]int{3, 1, 7}, []int{1, 7, 3}, []int{1, 3, 7}}, {[]int{9, 5, 8}, []int{5, 9, 8}, []int{5, 8, 9}},
		{[]int{0, 1, 2, 3, 4, 5, 6, 7, 8, 9}, []int{0, 8, 6, 5, 9, 4, 1, 7, 3, 2}, []int{0, 2, 3, 7, 1, 4, 9, 5, 6, 8}},
		{[]int{9, 8, 7, 6, 5, 4, 3, 2, 1, 0}, []int{0, 8, 6, 5, 9, 4, 1, 7, 3, 2}, []int{0, 2, 3, 7, 1, 4, 9, 5, 6, 8}},
	} {
		order, least, one := impl.LeastOrder(x.digits)
		ring, round, two := impl.LeastRing(x.digits)
		if !one || !two || !slices.Equal(order, x.order) || !slices.Equal(ring, x.ring) || least != costByHand(x.order, false) || round != costByHand(x.ring, true) {
			t.Errorf("%v: %v, %d, %v and %v, %d, %v", x.digits, order, least, one, ring, round, two)
		}
	}
}

func TestNearestDigits(t *testing.T) {
	for digit, row := range changesWritten {
		fewest := slices.Min(slices.Concat(row[:digit], row[digit+1:]))
		want := slices.DeleteFunc(placesOf(row[:], fewest), func(other int) bool { return other == digit })
		near, far, ok := impl.NearestDigits(digit)
		if !ok || far != fewest || !slices.Equal(near, want) {
			t.Errorf("nearest to %d: %v, %d, %v, not %v, %d", digit, near, far, ok, want, fewest)
		}
	}
	for digit, want := range []string{"[8] 1", "[7] 1", "[3 8] 2", "[9] 1", "[1 9] 2", "[6 9] 1", "[5 8] 1", "[1] 1", "[0 6 9] 1", "[3 5 8] 1"} {
		near, far, ok := impl.NearestDigits(digit)
		if got := fmt.Sprint(near, far); !ok || got != want {
			t.Errorf("nearest to %d: %s, %v", digit, got, ok)
		}
	}
	for _, no := range noDigits {
		if near, far, ok := impl.NearestDigits(no); ok || len(near) != 0 || far != 0 {
			t.Errorf("nearest to %d: %v, %d, %v", no, near, far, ok)
		}
	}
}

func TestFirstOver(t *testing.T) {
	for k := 1; k <= impl.MaxCells; k++ {
		for _, from := range startsOf(k) {
			total, reached := 0, 0
			for steps := range impl.MaxSteps + 1 {
				// Up to what the steps so far change together, no fewer steps do than these.
				for _, changes := range []int{reached, total} {
					if !looksAt(steps) {
						break
					}
					if over, ok := impl.FirstOver(from, k, changes); !ok || over != steps {
						t.Fatalf("%d changes from %d of %d cells: %d, %v, not %d", changes, from, k, over, ok, steps)
					}
				}
				reached = total + 1
				total += len(strings.Join(stepByHand((from+steps)%powerOf(k), k), ""))
			}
			for _, changes := range []int{reached, total, reached + 1000, 1 << 32, math.MaxInt, -1, -reached, math.MinInt} {
				if over, ok := impl.FirstOver(from, k, changes); ok || over != 0 {
					t.Errorf("%d changes from %d of %d cells: %d, %v", changes, from, k, over, ok)
				}
			}
		}
	}
	for _, x := range [][4]int{{0, 1, 0, 0}, {0, 1, 1, 1}, {0, 1, 4, 1}, {0, 1, 5, 2}, {0, 1, 9, 2}, {0, 1, 10, 3}, {9, 1, 2, 1}, {9, 1, 3, 2}, {0, 1, 3000, 1000}, {0, 2, 3300, 1000}} {
		if over, ok := impl.FirstOver(x[0], x[1], x[2]); !ok || over != x[3] {
			t.Errorf("%d changes from %d of %d cells: %d, %v", x[2], x[0], x[1], over, ok)
		}
	}
	for _, x := range [][3]int{{0, 1, 3001}, {0, 2, 3301}} {
		if over, ok := impl.FirstOver(x[0], x[1], x[2]); ok || over != 0 {
			t.Errorf("%d changes from %d of %d cells: %d, %v", x[2], x[0], x[1], over, ok)
		}
	}
}

func TestArgumentsOfCountersAreNotModified(t *testing.T) {
	for _, digits := range [][]int{{9, 3, 7, 0, 8, 2, 6, 5, 1, 4}, {3, 1, 7, 7}, {8, 2, -1}, {9, 0, 10}, {5}} {
		given := append(slices.Clone(digits), 9, 8, 7)
		for size := range len(digits) + 1 {
			impl.OrderCost(given[:size], false)
			impl.OrderCost(given[:size], true)
			impl.LeastOrder(given[:size])
			impl.LeastRing(given[:size])
		}
		if !slices.Equal(given, append(slices.Clone(digits), 9, 8, 7)) {
			t.Error("the digits are", given, "and were", digits)
		}
	}
}

func TestResultsOfCountersStandAlone(t *testing.T) {
	given := []int{3, 1, 7}
	calls := map[string]func() ([]int, bool){
		"CounterRow":    func() ([]int, bool) { return impl.CounterRow(407, 6) },
		"CounterRow no": func() ([]int, bool) { return impl.CounterRow(10, 1) },
		"LeastOrder":    func() ([]int, bool) { order, _, ok := impl.LeastOrder(given); return order, ok },
		"LeastOrder {}": func() ([]int, bool) { order, _, ok := impl.LeastOrder(given[:0]); return order, ok },
		"LeastOrder 1":  func() ([]int, bool) { order, _, ok := impl.LeastOrder(given[:1]); return order, ok },
		"LeastRing":     func() ([]int, bool) { ring, _, ok := impl.LeastRing(given); return ring, ok },
		"LeastRing {}":  func() ([]int, bool) { ring, _, ok := impl.LeastRing(given[:0]); return ring, ok },
		"LeastRing 1":   func() ([]int, bool) { ring, _, ok := impl.LeastRing(given[1:2]); return ring, ok },
		"NearestDigits": func() ([]int, bool) { near, _, ok := impl.NearestDigits(8); return near, ok },
		"LeastRing no":  func() ([]int, bool) { ring, _, ok := impl.LeastRing([]int{3, 3}); return ring, ok },
	}
	standAlone(t, given, calls)
	wear, _ := impl.WearOf(0, 5, 3)
	kept := slices.Clone(wear)
	clear(wear[:cap(wear)])
	if again, ok := impl.WearOf(0, 5, 3); !ok || !slices.Equal(again, kept) {
		t.Error("WearOf is", again, "and was", kept)
	}
}

// answersOfCounters returns what all functions of the chapter return for numbers, steps, cells and orders of all sorts.
func answersOfCounters() []any {
	var all []any
	tell := func(x ...any) { all = append(all, fmt.Sprint(x...)) }
	tell(impl.ChangeTable(), impl.BarShares())
	numbers := slices.Concat(noCounts, noRuns, noNumbers, []int{1, 2, 3, 4, 5, 6, 9, 10, 99, 100, 999, 1000, 999999})
	for _, k := range numbers {
		number, most, one := impl.MostChanges(k)
		near, far, two := impl.NearestDigits(k)
		tell(number, most, one, near, far, two)
		for _, n := range numbers {
			row, one := impl.CounterRow(n, k)
			step, two := impl.StepChanges(n, k)
			tell(row, step, one, two)
			for _, steps := range numbers {
				run, one := impl.RunChanges(n, steps, k)
				wear, two := impl.WearOf(n, steps, k)
				light, three := impl.LightOf(n, steps, k)
				over, four := impl.FirstOver(n, k, steps)
				tell(run, wear, light, over, one, two, three, four)
			}
		}
	}
	for i, digits := range slices.Concat(noOrders, setsOfDigits()) {
		plain, one := impl.OrderCost(digits, i%2 == 0)
		order, least, two := impl.LeastOrder(digits)
		ring, round, three := impl.LeastRing(digits)
		tell(plain, order, least, ring, round, one, two, three)
	}
	return all
}

func TestCountersReturnTheSameForAllArguments(t *testing.T) {
	if !reflect.DeepEqual(answersOfCounters(), answersOfCounters()) {
		t.Error("other results for the same arguments")
	}
}
