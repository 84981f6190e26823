package tests

import (
	"fmt"
	"reflect"
	"slices"
	"testing"

	"loop.example/g01322/impl"
)

// aList is a list of jobs with a name.
type aList struct {
	name string
	list []impl.Job
	good bool
}

func (a aList) String() string { return a.name }

// listsOfBothKinds are valid jobs of all numbers, and others that are not valid.
func listsOfBothKinds() []aList {
	var all []aList
	for _, list := range append(edgeLists(), scatteredJobs(6, 5, 2, 1), scatteredJobs(12, 30, 1, 2), scatteredJobs(11, 2, 4, 3)) {
		all = append(all, aList{writtenJobs(list), list, true})
	}
	for name, list := range invalidLists() {
		all = append(all, aList{name, list, false})
	}
	return all
}

// workNumbers are arguments at and beyond the limits of chapter 7.
var workNumbers = append([]int64{4, 5, 6, 20, 30, 31, 999, 1000, 1001, 1999, 2000, 2001, 1<<32 + 2, 1<<32 + 1000}, numbers...)

func noHands(hands int64) bool { return hands < 1 || hands > 4 }

// budgets are numbers of tries at and beyond the limits.
var budgets = append([]int64{4, 5, 100, 19999, 20000, 20001, 1<<16 + 20, 1<<32 + 20}, numbers...)

func noBudget(budget int64) bool { return budget < 0 || budget > 20000 }

func TestPromise1CallsWithJobs(t *testing.T) {
	for _, a := range listsOfBothKinds() {
		list, want := a.list, firstOf(invalid(!a.good))
		for _, c := range []call{
			{"OrderOf", results(a), want, func() []any { a, b := impl.OrderOf(list); return results(a, b) }},
			{"BeforeAll", results(a), want, func() []any { a, b := impl.BeforeAll(list); return results(a, b) }},
			{"EarliestOf", results(a), want, func() []any { a, b := impl.EarliestOf(list); return results(a, b) }},
			{"LongestChain", results(a), want, func() []any { a, b, c := impl.LongestChain(list); return results(a, b, c) }},
		} {
			checkCall(t, c)
		}
		wantEqual(t, a.name, impl.ValidJobs(list), a.good)
		text := ""
		if a.good {
			text = writtenJobs(list)
		}
		wantEqual(t, a.name, impl.JobsText(list), text)
		wantEqual(t, a.name, impl.JobsText(list), text)
	}
}

func TestPromise1CallsWithJobsAndANumber(t *testing.T) {
	for _, a := range listsOfBothKinds() {
		list, broken := a.list, invalid(!a.good)
		needed := int64(0)
		if a.good {
			needed = endOf(list, earliestModel(list))
		}
		for _, number := range append([]int64{needed, needed - 1, needed + 1, int64(len(list)) - 1, int64(len(list))}, workNumbers...) {
			noJob := number < 0 || number >= int64(len(list))
			name := results(a, number)
			for _, c := range []call{
				{"LatestOf", name, firstOf(broken, outside(number < 0 || number > 1000), missing(number < needed)), func() []any { a, b := impl.LatestOf(list, number); return results(a, b) }},
				{"BoundFor", name, firstOf(broken, outside(noHands(number))), func() []any { a, b := impl.BoundFor(list, number); return results(a, b) }},
				{"DropJob", name, firstOf(broken, outside(noJob)), func() []any { a, b := impl.DropJob(list, number); return results(a, b) }},
				{"ChainJobs", results(a, number, number), firstOf(broken, outside(noJob), badState(true)), func() []any { a, b := impl.ChainJobs(list, number, number); return results(a, b) }},
				{"ChainJobs", results(a, number, 0), firstOf(broken, outside(noJob || len(list) == 0), badState(!noJob && a.good && (number == 0 || waitsModel(list)[number][0]))), func() []any { a, b := impl.ChainJobs(list, number, 0); return results(a, b) }},
				{"ChainJobs", results(a, 0, number), firstOf(broken, outside(noJob || len(list) == 0), badState(!noJob && a.good && (number == 0 || waitsModel(list)[0][number]))), func() []any { a, b := impl.ChainJobs(list, 0, number); return results(a, b) }},
			} {
				checkCall(t, c)
			}
		}
	}
}

func TestPromise1CallsWithAnOrder(t *testing.T) {
	for _, a := range listsOfBothKinds() {
		list := a.list
		var orders [][]int64
		if a.good {
			orders = someOrders(list)[:1]
			orders = append(orders, append(slices.Clone(orders[0]), 0), orders[0][:max(len(list), 1)-1])
		}
		for _, order := range append(orders, nil, []int64{0}, []int64{-1}, []int64{0, 1}, []int64{1, 0}, []int64{0, 0}, []int64{numbers[0]}, []int64{numbers[len(numbers)-1]}, []int64{1 << 32}, slices.Repeat([]int64{0}, 1000)) {
			for _, hands := range workNumbers {
				want := firstOf(invalid(!a.good), outside(noHands(hands)), badState(a.good && !isOrderModel(list, order)))
				checkCall(t, call{"PlanInOrder", results(a, hands, order[:min(len(order), 15)]), want, func() []any { a, b := impl.PlanInOrder(list, hands, order); return results(a, b) }})
			}
		}
	}
}

func TestPromise1CallsWithTries(t *testing.T) {
	for _, a := range listsOfBothKinds() {
		list, broken := a.list, invalid(!a.good)
		for _, hands := range workNumbers {
			needed := int64(0)
			if a.good && !noHands(hands) {
				if best := searchModel(list, hands, 20000); best.enough {
					needed = best.tries
				} else {
					needed = 20001
				}
			}
			for _, budget := range append([]int64{needed, needed - 1}, budgets...) {
				want := firstOf(broken, outside(noHands(hands) || noBudget(budget)), tooDear(budget < needed))
				checkCall(t, call{"BestPlan", results(a, hands, budget), want, func() []any {
					a, b, c := impl.BestPlan(list, hands, budget)
					return results(a, b, c)
				}})
			}
		}
		for _, days := range workNumbers {
			for _, budget := range budgets {
				noNumber := days < 0 || days > 1000 || noBudget(budget)
				want := firstOf(broken, outside(noNumber))
				if want == impl.OK {
					_, want = handsModel(list, days, min(budget, 100))
				}
				if budget <= 100 || noNumber || !a.good {
					checkCall(t, call{"HandsNeeded", results(a, days, budget), want, func() []any { a, b := impl.HandsNeeded(list, days, budget); return results(a, b) }})
				}
			}
		}
	}
}

// somePlans are plans for jobs, and others that are none.
func somePlans(list []impl.Job) [][]impl.Slot {
	plans := [][]impl.Slot{nil, {}, slots("0:0"), slots("0:0 0:0"), slots("0:0 1:0 2:0 3:0"), make([]impl.Slot, len(list)), slices.Repeat(slots("0:0"), 100000)}
	if goodJobs(list) {
		for hands := int64(1); hands <= 4; hands++ {
			plan := planModel(list, hands, someOrders(list)[0])
			plans = append(plans, plan, append(slices.Clone(plan), impl.Slot{}), plan[:max(len(list), 1)-1])
			for job := range min(len(plan), 2) {
				for _, s := range slots("-1:0 4:0 3:1000 0:-1 0:1001 127:32767 -128:-32768") {
					changed := slices.Clone(plan)
					changed[job] = s
					plans = append(plans, changed)
				}
			}
		}
	}
	return plans
}

func TestPromise1CallsWithSlots(t *testing.T) {
	for _, a := range listsOfBothKinds() {
		list := a.list
		for i, plan := range somePlans(list) {
			few := plan[:min(len(plan), 13)]
			for _, hands := range []int64{numbers[0], -1, 0, 1, 2, 3, 4, 5, 256, 257, 1 << 32, 1<<32 + 1, numbers[len(numbers)-1]} {
				name := results(a, hands, few)
				broken, noCrew := invalid(!a.good), outside(noHands(hands))
				good := goodPlan(list, hands, plan)
				want := firstOf(broken, noCrew, invalid(!good))
				for _, c := range []call{
					{"LengthOfPlan", name, want, func() []any { a, b := impl.LengthOfPlan(list, hands, plan); return results(a, b) }},
					{"IdleDays", name, want, func() []any { a, b := impl.IdleDays(list, hands, plan); return results(a, b) }},
					{"FirstWrongSlot", name, firstOf(broken, noCrew, badState(len(plan) != len(list)), missing(good)), func() []any { a, b := impl.FirstWrongSlot(list, hands, plan); return results(a, b) }},
				} {
					checkCall(t, c)
				}
				for k, day := range workNumbers {
					if i > 8 && (k+i)%5 > 0 {
						continue
					}
					want := firstOf(broken, noCrew, invalid(!good), outside(day < 0 || day > 2000))
					checkCall(t, call{"BusyOn", append(name, day), want, func() []any { a, b := impl.BusyOn(list, hands, plan, day); return results(a, b) }})
				}
				wantEqual(t, fmt.Sprint("ValidSlots", name), impl.ValidSlots(list, hands, plan), good)
			}
		}
	}
}

func TestPromise1CallsForPictures(t *testing.T) {
	list := append(wornSamples(), lostAndBad()...)
	for _, p := range invalidPictures() {
		list = append(list, p)
	}
	for i, p := range list {
		for k, perDay := range append([]int64{5, 30, 145}, numbers...) {
			if i >= 40 && (i+k)%7 > 0 {
				continue
			}
			want := firstOf(invalid(!isValid(p)), outside(perDay < 1 || perDay > 144))
			if want == impl.OK {
				_, want = jobsModel(p, perDay)
			}
			checkCall(t, call{"JobsFor", results(p, perDay), want, func() []any { a, b := impl.JobsFor(p, perDay); return results(a, b) }})
		}
	}
}

func TestPromise1CallsWithTextsOfJobs(t *testing.T) {
	for text, want := range map[string]int64{"3 2,0 4 1,1,2": impl.OK, "30": impl.OK, "": impl.OK, " ": impl.ErrSyntax, "3,0": impl.ErrSyntax, "1,1 1,0": impl.ErrSyntax, "31": impl.ErrSyntax, "1 1,00": impl.ErrSyntax} {
		checkCall(t, call{"ReadJobs", results(text), want, func() []any { a, b := impl.ReadJobs(text); return results(a, b) }})
	}
}

// callsWithWork calls each function of chapter 7 that has a slice among its arguments, and returns all results.
func callsWithWork(list []impl.Job, hands int64, order []int64, plan []impl.Slot) [][]any {
	var all [][]any
	add := func(values ...any) { all = append(all, values) }
	number := func(n, code int64) { add(n, code) }
	days := func(list []int64, code int64) { add(list, code) }
	changed := func(list []impl.Job, code int64) { add(list, code) }
	add(impl.ValidJobs(list), impl.ValidSlots(list, hands, plan), impl.JobsText(list))
	days(impl.OrderOf(list))
	before, code := impl.BeforeAll(list)
	add(before, code)
	days(impl.EarliestOf(list))
	chain, sum, code := impl.LongestChain(list)
	add(chain, sum, code)
	days(impl.LatestOf(list, 1000))
	number(impl.BoundFor(list, hands))
	made, code := impl.PlanInOrder(list, hands, order)
	add(made, code)
	for _, budget := range []int64{0, 12, 300} {
		best, length, code := impl.BestPlan(list, hands, budget)
		add(best, length, code)
		number(impl.HandsNeeded(list, 40, budget))
	}
	number(impl.LengthOfPlan(list, hands, plan))
	number(impl.FirstWrongSlot(list, hands, plan))
	days(impl.IdleDays(list, hands, plan))
	days(impl.BusyOn(list, hands, plan, 1))
	for job := range int64(3) {
		changed(impl.DropJob(list, job))
		changed(impl.ChainJobs(list, job, 1))
	}
	return all
}

// TestPromise1WorkIsKept checks that no argument is modified, nor the room behind it, and that this room has no influence.
func TestPromise1WorkIsKept(t *testing.T) {
	for i, a := range listsOfBothKinds() {
		if len(a.list) > 100 {
			continue
		}
		orders := [][]int64{nil, {0, 1, 2}}
		if a.good {
			orders = append(orders, someOrders(a.list)[0])
		}
		order, hands := orders[len(orders)-1-i%7/6], int64(1+i%4)
		for _, plan := range somePlans(a.list)[:min(10, len(somePlans(a.list)))] {
			plan = plan[:min(len(plan), 20)]
			want := callsWithWork(slices.Clip(slices.Clone(a.list)), hands, slices.Clip(slices.Clone(order)), slices.Clip(slices.Clone(plan)))
			filler, slot := impl.Job{Days: 2, After: 1}, impl.Slot{Hand: 1, Start: 7}
			roomyList, roomyOrder, roomyPlan := roomy(a.list, filler), roomy(order, 1), roomy(plan, slot)
			got := callsWithWork(roomyList, hands, roomyOrder, roomyPlan)
			if !reflect.DeepEqual(got, want) {
				t.Errorf("%v: got %v, with room behind the lists %v", a, want, got)
			}
			wantEqual(t, "jobs", roomyList[:len(a.list)+20], append(slices.Clone(a.list), slices.Repeat([]impl.Job{filler}, 20)...))
			wantEqual(t, "order", roomyOrder[:len(order)+20], append(slices.Clone(order), slices.Repeat([]int64{1}, 20)...))
			wantEqual(t, "plan", roomyPlan[:len(plan)+20], append(slices.Clone(plan), slices.Repeat([]impl.Slot{slot}, 20)...))
		}
	}
}

// TestPromise1WorkIsNew writes into each list of a result, up to its capacity, and looks at the arguments and a result of another call.
func TestPromise1WorkIsNew(t *testing.T) {
	list, order, plan := exampleJobs(), []int64{0, 1, 2, 3}, slots("0:0 0:3 1:0 0:5")
	for name, result := range map[string]func() []int64{
		"OrderOf":      func() []int64 { list, _ := impl.OrderOf(list); return list },
		"EarliestOf":   func() []int64 { list, _ := impl.EarliestOf(list); return list },
		"LongestChain": func() []int64 { list, _, _ := impl.LongestChain(list); return list },
		"LatestOf":     func() []int64 { list, _ := impl.LatestOf(list, 7); return list },
		"IdleDays":     func() []int64 { list, _ := impl.IdleDays(list, 2, plan); return list },
		"BusyOn":       func() []int64 { list, _ := impl.BusyOn(list, 2, plan, 3); return list },
	} {
		checkNew(t, name, result, -7)
	}
	checkNew(t, "BeforeAll", func() []uint16 { list, _ := impl.BeforeAll(list); return list }, 0xffff)
	for name, result := range map[string]func() []impl.Slot{
		"PlanInOrder": func() []impl.Slot { plan, _ := impl.PlanInOrder(list, 2, order); return plan },
		"BestPlan":    func() []impl.Slot { plan, _, _ := impl.BestPlan(list, 2, 20000); return plan },
	} {
		checkNew(t, name, result, impl.Slot{Hand: -7, Start: -7})
	}
	for name, result := range map[string]func() []impl.Job{
		"JobsFor":                   func() []impl.Job { list, _ := impl.JobsFor(example(), 2); return list },
		"DropJob, the first one":    func() []impl.Job { list, _ := impl.DropJob(list, 0); return list },
		"DropJob, the last one":     func() []impl.Job { list, _ := impl.DropJob(list, 3); return list },
		"ChainJobs":                 func() []impl.Job { list, _ := impl.ChainJobs(list, 0, 2); return list },
		"ChainJobs, chained before": func() []impl.Job { list, _ := impl.ChainJobs(list, 0, 1); return list },
		"ReadJobs":                  func() []impl.Job { list, _ := impl.ReadJobs("3 2,0 4 1,1,2"); return list },
	} {
		checkNew(t, name, result, impl.Job{Days: -7, After: 0xffff})
	}
	wantEqual(t, "the arguments", []any{list, order, plan}, []any{exampleJobs(), []int64{0, 1, 2, 3}, slots("0:0 0:3 1:0 0:5")})
}
