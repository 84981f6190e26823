package tests

import (
	"fmt"
	"slices"
	"testing"

	"loop.example/g01322/impl"
)

func TestBestPlanByHand(t *testing.T) {
	for _, c := range []struct {
		name, text           string
		hands                int64
		plan                 string
		length, bound, tries int64
	}{
		{"no jobs", "", 1, "", 0, 0, 0},
		{"no jobs for 4", "", 4, "", 0, 0, 0},
		{"one job", "30", 1, "0:0", 30, 30, 1},
		{"one job for 4", "7", 4, "0:0", 7, 7, 1},
		{"the example", "3 2,0 4 1,1,2", 2, "0:0 0:3 1:0 0:5", 6, 6, 4},
		{"the example for one", "3 2,0 4 1,1,2", 1, "0:0 0:3 0:5 0:9", 10, 10, 4},
		{"the sum, rounded up", "1 1 1", 2, "0:0 1:0 0:1", 2, 2, 3},
		{"the sum, but for a day", "2 2 1", 2, "0:0 1:0 0:2", 3, 3, 3},
		// The order 0, 1, 2 has 3 days, and 0, 2, 1, which goes on from the first try, 2 days.
		{"the best plan is not the first one", "1 1 2", 2, "0:0 0:1 1:0", 2, 2, 5},
		// The first order has 4 days, and the bound is 3: in all others the third job is left out. So there are 3 tries in the first order, 1 more that begins with 0, and 3 each that begin with 1 and 2.
		{"no plan is as short as the bound", "2 2 2", 2, "0:0 1:0 0:2", 4, 3, 10},
		// Behind 0, 1, 2 with 5 days 2 is tried behind 0, as it is done on the day 3, and then 1, on the day 4: this is the best plan.
		{"the best plan is not the first one, by a day", "2 2 3", 2, "0:0 0:2 1:0", 4, 4, 5},
		// Behind 0, 1, 2 the jobs 3 and 4 can be exchanged: that plan is as long, and comes later.
		{"several plans are as short", "4 4 4 1 1", 2, "0:0 1:0 0:4 1:4 1:5", 8, 7, 156},
		{"a chain is the bound", "5 1,0 5", 2, "0:0 0:5 1:0", 6, 6, 3},
		{"both bounds are equal", "2 2,0 4", 2, "0:0 0:2 1:0", 4, 4, 3},
		{"all wait for one", "1 1,0 1,0 1,0", 3, "0:0 0:1 1:1 2:1", 2, 2, 4},
	} {
		list := jobs(c.text)
		plan, length, code := impl.BestPlan(list, c.hands, 20000)
		wantEqual(t, c.name, fmt.Sprint(writtenSlots(plan), " ", length, code), fmt.Sprint(c.plan, " ", c.length, impl.OK))
		bound, code := impl.BoundFor(list, c.hands)
		wantEqual(t, c.name+", bound", []int64{bound, code}, []int64{c.bound, impl.OK})
		plan, length, code = impl.BestPlan(list, c.hands, c.tries)
		wantEqual(t, c.name+", just enough tries", fmt.Sprint(writtenSlots(plan), " ", length, code), fmt.Sprint(c.plan, " ", c.length, impl.OK))
		if c.tries > 0 {
			plan, length, code = impl.BestPlan(list, c.hands, c.tries-1)
			wantEqual(t, c.name+", a try too few", []any{len(plan), length, code}, []any{0, int64(0), int64(impl.ErrBudget)})
		}
	}
}

func TestBoundFor(t *testing.T) {
	byChain, bySum := 0, 0
	for _, list := range append(sampleLists(), smallLists()...) {
		chain := daysOf(list, chainModel(list))
		for hands := int64(1); hands <= 4; hands++ {
			bound, code := impl.BoundFor(list, hands)
			wantEqual(t, fmt.Sprint(writtenJobs(list), " for ", hands), []int64{bound, code}, []int64{boundModel(list, hands), impl.OK})
			if bound > chain {
				bySum++
			} else {
				byChain++
			}
		}
	}
	if byChain < 100 || bySum < 100 {
		t.Errorf("the bound is a chain only %d times, and greater only %d times", byChain, bySum)
	}
}

// evenLists have so many jobs that cannot be shared evenly by the hands, and so seldom a plan that is as short as the bound.
func evenLists(most int) [][]impl.Job {
	var lists [][]impl.Job
	for count := 3; count <= most; count++ {
		for seed := range 24 {
			list := scatteredJobs(count, 1+seed%3, seed%4/3, seed+900)
			for job := range list {
				list[job].Days += int8(seed % 5)
				// Short jobs leave room for exchanges.
				if seed%4 == 2 && job%2 > 0 {
					list[job].Days = 1
				}
			}
			lists = append(lists, list)
		}
	}
	return lists
}

// searchedLists are the lists of which all orders can be looked at, and some others.
func searchedLists() [][]impl.Job {
	lists := slices.DeleteFunc(sampleLists(), func(list []impl.Job) bool { return len(list) > 8 && daysOf(list, slices.Collect(indices(list))) > 60 })
	for _, text := range []string{"7 7 7 7 7 7 7 7 7 7", "5 5 5 5 5 5 5 5 5 5 5 4", "2 2 2 2 2 2 2 2 2 2 2 2", "3 3,0 3 3 3,1 3 3 3,2 3 3"} {
		lists = append(lists, jobs(text))
	}
	return slices.Concat(lists, evenLists(8), smallLists())
}

// TestPromise17BestPlanAsTold holds the best plan, and the budgets that are just enough and a try too small, against the search of the model.
func TestPromise17BestPlanAsTold(t *testing.T) {
	beyond, longer, later := 0, 0, 0
	for i, list := range searchedLists() {
		for hands := int64(1); hands <= 4; hands++ {
			if len(list) == 4 && (i+int(hands))%3 > 0 {
				continue
			}
			name := fmt.Sprint(writtenJobs(list), " for ", hands)
			want := searchModel(list, hands, 20000)
			if !want.enough {
				beyond++
				want.tries = 20001
			}
			for _, budget := range []int64{want.tries, want.tries + 1, want.tries - 1, want.tries / 2, 0, 20000} {
				if budget < 0 || budget > 20000 {
					continue
				}
				plan, length, code := impl.BestPlan(list, hands, budget)
				if budget >= want.tries && (code != impl.OK || length != want.length || !slices.Equal(plan, want.plan)) {
					t.Errorf("%s with %d: got %s of %d with the code %d, want %s of %d", name, budget, writtenSlots(plan), length, code, writtenSlots(want.plan), want.length)
				}
				if budget < want.tries && (code != impl.ErrBudget || length != 0 || len(plan) != 0) {
					t.Errorf("%s with %d, and %d tries: got %s of %d with the code %d", name, budget, want.tries, writtenSlots(plan), length, code)
				}
			}
			if want.enough && want.length > boundModel(list, hands) {
				longer++
			}
			if want.enough && want.tries > int64(len(list)) {
				later++
			}
		}
	}
	if beyond < 10 || longer < 100 || later < 200 {
		t.Errorf("only %d searches are too long, only %d plans are longer than the bound, and only %d are found behind the first one, or held against others", beyond, longer, later)
	}
}

// TestPromise17NoPlanIsShorter holds the best plan against the fewest days of all plans, and plans in all orders against both.
func TestPromise17NoPlanIsShorter(t *testing.T) {
	lists := append(smallLists(), evenLists(6)...)
	for count := 5; count <= 7; count++ {
		for seed := range 12 {
			lists = append(lists, scatteredJobs(count, 2+seed%4, seed%5, seed+500))
		}
	}
	reached, notReached := 0, 0
	for i, list := range lists {
		for hands := int64(1); hands <= 4; hands++ {
			if len(list) < 5 && (i+int(hands))%2 > 0 {
				continue
			}
			name := fmt.Sprint(writtenJobs(list), " for ", hands)
			shortest := shortestModel(list, int(hands))
			plan, length, code := impl.BestPlan(list, hands, 20000)
			bound, _ := impl.BoundFor(list, hands)
			if code != impl.OK || length != shortest || bound > shortest || !goodPlan(list, hands, plan) || !impl.ValidSlots(list, hands, plan) || lengthOfModel(list, plan) != length {
				t.Errorf("%s: got %s of %d with the code %d and the bound %d, but all can be done in %d", name, writtenSlots(plan), length, code, bound, shortest)
			}
			for _, order := range someOrders(list) {
				plan, _ := impl.PlanInOrder(list, hands, order)
				if made, code := impl.LengthOfPlan(list, hands, plan); code != impl.OK || made < shortest {
					t.Errorf("%s: the plan in the order %v has %d days with the code %d, fewer than %d", name, order, made, code, shortest)
				}
			}
			if bound == shortest {
				reached++
			} else {
				notReached++
			}
		}
	}
	if reached < 100 || notReached < 50 {
		t.Errorf("the bound is reached only %d times, and not reached only %d times", reached, notReached)
	}
}

func TestHandsNeededByHand(t *testing.T) {
	for _, c := range []struct {
		text                      string
		days, budget, hands, code int64
	}{
		{"3 2,0 4 1,1,2", 6, 20000, 2, impl.OK},
		{"3 2,0 4 1,1,2", 9, 20000, 2, impl.OK},
		{"3 2,0 4 1,1,2", 10, 20000, 1, impl.OK},
		{"3 2,0 4 1,1,2", 1000, 20000, 1, impl.OK},
		{"3 2,0 4 1,1,2", 5, 20000, 0, impl.ErrNotFound},
		{"3 2,0 4 1,1,2", 1001, 20000, 0, impl.ErrRange},
		{"3 2,0 4 1,1,2", -1, 20000, 0, impl.ErrRange},
		{"3 2,0 4 1,1,2", 6, -1, 0, impl.ErrRange},
		{"3 2,0 4 1,1,2", 6, 20001, 0, impl.ErrRange},
		{"3 2,0 4 1,1,2", 6, 4, 2, impl.OK},
		{"3 2,0 4 1,1,2", 6, 3, 0, impl.ErrBudget},
		{"3 2,0 4 1,1,2", 5, 3, 0, impl.ErrBudget},
		{"", 0, 0, 1, impl.OK},
		{"", 1000, 20000, 1, impl.OK},
		{"1", 0, 20000, 0, impl.ErrNotFound},
		{"1", 0, 0, 0, impl.ErrBudget},
		{"1", 1, 1, 1, impl.OK},
		{"5 5 5 5", 20, 4, 1, impl.OK},
		{"5 5 5 5", 19, 20000, 2, impl.OK},
		{"5 5 5 5", 10, 20000, 2, impl.OK},
		{"5 5 5 5", 9, 20000, 4, impl.OK},
		{"5 5 5 5", 5, 20000, 4, impl.OK},
		{"5 5 5 5", 4, 20000, 0, impl.ErrNotFound},
		{"5 5 5 5 5", 9, 20000, 0, impl.ErrNotFound},
		// 1 hand needs 3 tries, 2 hands 10, and 3 hands 3: those that are not asked do not count.
		{"2 2 2", 6, 3, 1, impl.OK},
		{"2 2 2", 5, 9, 0, impl.ErrBudget},
		{"2 2 2", 5, 10, 2, impl.OK},
		{"2 2 2", 2, 9, 0, impl.ErrBudget},
		{"2 2 2", 2, 10, 3, impl.OK},
	} {
		hands, code := impl.HandsNeeded(jobs(c.text), c.days, c.budget)
		wantEqual(t, fmt.Sprint(c.text, " in ", c.days, " with ", c.budget), []int64{hands, code}, []int64{c.hands, c.code})
	}
}

// handsModel asks for one hand after the other.
func handsModel(list []impl.Job, days, budget int64) (int64, int64) {
	for hands := int64(1); hands <= 4; hands++ {
		best := searchModel(list, hands, budget)
		if !best.enough {
			return 0, impl.ErrBudget
		}
		if best.length <= days {
			return hands, impl.OK
		}
	}
	return 0, impl.ErrNotFound
}

func TestHandsNeeded(t *testing.T) {
	codes := map[int64]int{}
	for i, list := range searchedLists() {
		if len(list) == 4 && i%3 > 0 || len(list) > 7 {
			continue
		}
		all := daysOf(list, slices.Collect(indices(list)))
		for _, days := range []int64{0, all, all - 1, (all + 1) / 2, (all+1)/2 - 1, (all + 2) / 3, all / 4, boundModel(list, 4), boundModel(list, 4) - 1} {
			if days < 0 {
				continue
			}
			for _, budget := range []int64{int64(len(list)), 20, 150, 20000} {
				want, code := handsModel(list, days, budget)
				hands, got := impl.HandsNeeded(list, days, budget)
				wantEqual(t, fmt.Sprint(writtenJobs(list), " in ", days, " with ", budget), []int64{hands, got}, []int64{want, code})
				codes[code*10+want]++
			}
		}
	}
	for _, what := range []int64{1, 2, 3, 4, impl.ErrNotFound * 10, impl.ErrBudget * 10} {
		if codes[what] < 20 {
			t.Errorf("%d comes only %d times", what, codes[what])
		}
	}
}
