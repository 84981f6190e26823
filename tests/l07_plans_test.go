package tests

import (
	"fmt"
	"slices"
	"testing"

	"loop.example/g01322/impl"
)

func TestPlanInOrderByHand(t *testing.T) {
	for _, c := range []struct {
		name, text string
		hands      int64
		order      []int64
		plan       string
	}{
		{"no jobs", "", 1, nil, ""},
		{"no jobs for 4", "", 4, []int64{}, ""},
		{"one job", "30", 4, []int64{0}, "0:0"},
		{"one hand", "3 2,0 4 1,1,2", 1, []int64{0, 2, 1, 3}, "0:0 0:7 0:3 0:9"},
		{"the example", "3 2,0 4 1,1,2", 2, []int64{0, 1, 2, 3}, "0:0 0:3 1:0 0:5"},
		{"more hands than jobs", "3 2,0 4 1,1,2", 4, []int64{2, 0, 1, 3}, "1:0 1:3 0:0 0:5"},
		{"all hands are free", "5 5 5 5", 4, []int64{3, 1, 0, 2}, "2:0 1:0 3:0 0:0"},
		{"the hand that is free first", "5 2 1", 2, []int64{0, 1, 2}, "0:0 1:0 1:2"},
		{"two hands are free on the same day", "3 3 1", 2, []int64{0, 1, 2}, "0:0 1:0 0:3"},
		// The job is ready on the day 4, when both hands are free: that hand 1 is free earlier does not count.
		{"free earlier, but not ready", "4 1 2,0", 2, []int64{0, 1, 2}, "0:0 1:0 0:4"},
		{"free on the day before it is ready", "3 4 2,1", 2, []int64{0, 1, 2}, "0:0 1:0 0:4"},
		{"free a day too late", "5 4 2,1", 2, []int64{0, 1, 2}, "0:0 1:0 1:4"},
		{"the least of three that are free", "4 1 1 2,0 2", 3, []int64{0, 1, 2, 3, 4}, "0:0 1:0 2:0 0:4 1:1"},
		{"behind all jobs, not between", "1 5 5,1 2", 1, []int64{0, 1, 2, 3}, "0:0 0:1 0:6 0:11"},
		{"days on which a hand waits stay empty", "6 1,0 1", 1, []int64{0, 1, 2}, "0:0 0:6 0:7"},
		{"a hand that waits is not filled up", "6 1 3,0 2", 2, []int64{0, 1, 2, 3}, "0:0 1:0 0:6 1:1"},
		{"behind a job for which the hand has waited", "1 6 1,1 1,1 1", 2, []int64{0, 1, 2, 3, 4}, "0:0 1:0 0:6 1:6 0:7"},
		{"all waits are heeded", "5 1 2 1,0,1,2 1,1", 4, []int64{0, 1, 2, 3, 4}, "0:0 1:0 2:0 0:5 1:1"},
		{"the order counts, not the index", "2 2 2,1", 1, []int64{1, 2, 0}, "0:4 0:0 0:2"},
		{"days of 30", "30 30 30 30 30 30 30 30 30 30 30 30", 1, []int64{0, 1, 2, 3, 4, 5, 6, 7, 8, 9, 10, 11}, "0:0 0:30 0:60 0:90 0:120 0:150 0:180 0:210 0:240 0:270 0:300 0:330"},
		{"days of 1", "1 1 1 1 1 1 1 1 1 1 1 1", 4, []int64{0, 1, 2, 3, 4, 5, 6, 7, 8, 9, 10, 11}, "0:0 1:0 2:0 3:0 0:1 1:1 2:1 3:1 0:2 1:2 2:2 3:2"},
	} {
		plan, code := impl.PlanInOrder(jobs(c.text), c.hands, c.order)
		wantEqual(t, c.name, fmt.Sprint(writtenSlots(plan), code), fmt.Sprint(c.plan, impl.OK))
		wantEqual(t, c.name+", by the model", writtenSlots(planModel(jobs(c.text), c.hands, c.order)), c.plan)
	}
}

// someOrders are all orders of the jobs of a list where there are few jobs, and of several beginnings where there are many.
func someOrders(list []impl.Job) [][]int64 {
	var orders [][]int64
	for order := range ordersOf(list) {
		if orders = append(orders, order); len(orders) == 30 {
			break
		}
	}
	return orders
}

// TestPromise17PlansInOrder holds plans against the model, and checks that they are valid, and as long as they can be told to be.
func TestPromise17PlansInOrder(t *testing.T) {
	for _, list := range append(sampleLists(), smallLists()...) {
		for hands := int64(1); hands <= 4; hands++ {
			for _, order := range someOrders(list) {
				name := fmt.Sprint(writtenJobs(list), " for ", hands, " in ", order)
				plan, code := impl.PlanInOrder(list, hands, order)
				if want := planModel(list, hands, order); code != impl.OK || !slices.Equal(plan, want) {
					t.Fatalf("%s: got %s with the code %d, want %s", name, writtenSlots(plan), code, writtenSlots(want))
				}
				length, code := impl.LengthOfPlan(list, hands, plan)
				if code != impl.OK || !goodPlan(list, hands, plan) || !impl.ValidSlots(list, hands, plan) || length < boundModel(list, hands) {
					t.Errorf("%s: the plan %s of %d days with the code %d", name, writtenSlots(plan), length, code)
				}
			}
		}
	}
}

func TestPlansInNoOrder(t *testing.T) {
	list := exampleJobs()
	for _, order := range [][]int64{
		nil, {}, {0}, {0, 1, 2}, {0, 1, 2, 3, 3}, {0, 1, 2, 3, 4}, {0, 1, 2, 3, 0}, {0, 0, 1, 2, 3}, {0, 1, 1, 3}, {0, 0, 2, 3}, {0, 1, 2, 2}, {0, 1, 3, 2}, {1, 0, 2, 3}, {3, 2, 1, 0}, {0, 2, 3, 1},
		{0, 1, 2, 4}, {0, 1, 2, -1}, {-1, 0, 1, 2, 3}, {0, 1, 2, 16}, {0, 1, 2, 64}, {0, 1, 2, 67}, {0, 1, 2, 1<<32 + 3}, {0, 1, 2, 256 + 3}, {numbers[0], 1, 2, 3}, {0, 1, 2, numbers[len(numbers)-1]},
		slices.Repeat([]int64{0}, 1000000), append([]int64{0, 1, 2, 3}, slices.Repeat([]int64{3}, 999000)...),
	} {
		plan, code := impl.PlanInOrder(list, 2, order)
		if code != impl.ErrState || len(plan) != 0 {
			t.Errorf("%.99v: got %v with the code %d", fmt.Sprint(order), plan, code)
		}
	}
	for _, order := range [][]int64{{0}, {-1}, {1}} {
		plan, code := impl.PlanInOrder(nil, 1, order)
		wantEqual(t, "an index without jobs", []any{len(plan), code}, []any{0, int64(impl.ErrState)})
	}
	// All lists of at most 4 numbers, of which one is no index: only the orders have plans.
	for _, list := range [][]impl.Job{nil, jobs("1"), jobs("1 1"), jobs("1,1 1"), jobs("1 2 1"), jobs("1,2 1,0 3"), exampleJobs()} {
		all := [][]int64{nil}
		for first := 0; first < len(all); first++ {
			want := int64(impl.ErrState)
			if isOrderModel(list, all[first]) {
				want = impl.OK
			}
			plan, code := impl.PlanInOrder(list, 3, all[first])
			if code != want || code != impl.OK && len(plan) != 0 {
				t.Errorf("%v in %v: got %v with the code %d", writtenJobs(list), all[first], plan, code)
			}
			for job := int64(-1); job <= int64(len(list)) && len(all[first]) <= len(list); job++ {
				all = append(all, append(slices.Clone(all[first]), job))
			}
		}
	}
}

func TestSlotsByHand(t *testing.T) {
	for _, c := range []struct {
		name, text string
		hands      int64
		plan       string
		wrong      int64 // or -1
	}{
		{"no jobs", "", 1, "", -1},
		{"one job", "3", 1, "0:0", -1},
		{"begins on the day 1000", "3", 1, "0:1000", -1},
		{"begins behind it", "3", 1, "0:1001", 0},
		{"begins ahead of the day 0", "3", 1, "0:-1", 0},
		{"begins on the last day of all", "3", 1, "0:32767", 0},
		{"begins long ago", "3", 1, "0:-32768", 0},
		{"the greatest hand", "3 3 3 3", 4, "3:0 0:0 2:0 1:0", -1},
		{"no such hand", "3 3 3 3", 4, "0:0 1:0 4:0 2:0", 2},
		{"a hand too many", "3 3", 1, "0:0 1:0", 1},
		{"a hand less than 0", "3 3", 2, "0:0 -1:0", 1},
		{"hand -128", "3", 4, "-128:0", 0},
		{"hand 127", "3", 4, "127:0", 0},
		{"the example", "3 2,0 4 1,1,2", 2, "0:0 0:3 1:0 0:5", -1},
		{"begins when others are done", "3 2,0", 2, "0:4 1:7", -1},
		{"begins a day too early", "3 2,0", 2, "0:4 1:6", 1},
		{"begins when they begin", "3 2,0", 2, "0:4 1:4", 1},
		{"begins ahead of them", "3 2,0", 2, "0:4 1:0", 1},
		{"begins on the day 1000 when another is done", "3 2,0", 2, "0:997 1:1000", -1},
		{"begins when others behind it are done", "2,1 3", 2, "0:3 1:0", -1},
		{"begins too early for one behind it", "2,1 3", 2, "0:2 1:0", 0},
		{"only the last one for which it waits is not done", "1 1 5 1,0,1,2", 4, "0:0 1:0 2:0 3:4", 3},
		{"that is also told in between", "1 1,0 1,1", 3, "0:0 1:1 2:2", -1},
		{"waits by way of another one", "3 1,0 1,1", 3, "0:0 1:3 2:2", 2},
		{"two jobs meet", "3 2", 1, "0:0 0:3", -1},
		{"two jobs meet, the other way round", "3 2", 1, "0:2 0:0", -1},
		{"two jobs overlap by a day", "3 2", 1, "0:0 0:2", 1},
		{"by a day, the other way round", "3 2", 1, "0:1 0:0", 1},
		{"two jobs on the same days", "3 3", 1, "0:7 0:7", 1},
		{"one within the other", "9 2", 1, "0:0 0:4", 1},
		{"one around the other", "2 9", 1, "0:4 0:0", 1},
		{"beginning together", "2 9", 1, "0:4 0:4", 1},
		{"ending together", "2 9", 1, "0:11 0:4", 1},
		{"two hands on the same days", "3 3", 2, "0:7 1:7", -1},
		{"the third one between two", "3 3 2", 1, "0:0 0:5 0:3", -1},
		{"the third one a day too long", "3 3 3", 1, "0:0 0:5 0:3", 2},
		{"the first and the last one", "3 1 3", 2, "0:0 1:0 0:2", 2},
		// A slot that is not as told by itself stands in nobody's way, and nobody waits for it; but its own job is wrong.
		{"one behind has no such hand", "2,1 3", 2, "0:0 2:0", 1},
		{"one behind begins too late of all", "2,1 3", 2, "0:1000 1:1001", 1},
		{"one behind begins ahead of the day 0", "2,1 3", 2, "0:0 1:-1", 1},
		{"one behind begins ahead, and would be done", "2,1 3", 2, "0:2 1:-1", 1},
		{"one behind is wrong, another one is not done", "2,1,2 3 3", 2, "0:2 2:0 1:0", 0},
		{"one ahead is wrong", "3 2,0", 2, "2:0 1:0", 0},
		{"one ahead begins ahead of the day 0", "3 2", 1, "0:-1 0:0", 0},
		{"the last one is wrong", "1 1 1", 1, "0:0 0:1 0:1001", 2},
		{"several are wrong", "3 3 3 3", 2, "0:0 0:3 0:3 7:0", 2},
		{"too early, ahead of an overlap", "3 3,0 3", 1, "0:0 0:2 0:2", 1},
		{"an overlap ahead of one too early", "3 3 3,1", 2, "0:0 0:1 1:0", 1},
	} {
		list, plan := jobs(c.text), slots(c.plan)
		wrong, code := impl.FirstWrongSlot(list, c.hands, plan)
		want := []int64{c.wrong, impl.OK}
		if c.wrong < 0 {
			want = []int64{0, impl.ErrNotFound}
		}
		wantEqual(t, c.name, []int64{wrong, code}, want)
		wantEqual(t, c.name+", valid", impl.ValidSlots(list, c.hands, plan), c.wrong < 0)
		wantEqual(t, c.name+", by the model", wrongModel(list, c.hands, plan), c.wrong)
		_, code = impl.LengthOfPlan(list, c.hands, plan)
		wantEqual(t, c.name+", its length", code == impl.OK, c.wrong < 0)
	}
}

// wantSlots holds all that is told of a plan against the models.
func wantSlots(t *testing.T, list []impl.Job, hands int64, plan []impl.Slot) bool {
	t.Helper()
	name := fmt.Sprint(writtenJobs(list), " for ", hands, ": ", writtenSlots(plan))
	wrong, code := impl.FirstWrongSlot(list, hands, plan)
	good := impl.ValidSlots(list, hands, plan)
	if first := wrongModel(list, hands, plan); first >= 0 {
		if wrong != first || code != impl.OK || good {
			t.Errorf("%s: got the wrong slot %d with the code %d, want %d; valid: %v", name, wrong, code, first, good)
		}
		return false
	}
	if wrong != 0 || code != impl.ErrNotFound || !good {
		t.Errorf("%s: got the wrong slot %d with the code %d; valid: %v", name, wrong, code, good)
	}
	length, one := impl.LengthOfPlan(list, hands, plan)
	idle, two := impl.IdleDays(list, hands, plan)
	if one != impl.OK || two != impl.OK || length != lengthOfModel(list, plan) || !slices.Equal(idle, idleModel(list, hands, plan)) {
		t.Errorf("%s: got the length %d with the code %d, and the idle days %v with the code %d", name, length, one, idle, two)
	}
	for _, day := range []int64{0, 1, 2, 3, 4, 5, length - 1, length, length + 1, 999, 1000, 1001, 1029, 1030, 2000} {
		if day >= 0 {
			busy, code := impl.BusyOn(list, hands, plan, day)
			wantEqual(t, fmt.Sprint(name, " on ", day), fmt.Sprint(busy, code), fmt.Sprint(busyModel(list, plan, day), impl.OK))
		}
	}
	return true
}

// idleModel counts the days on which a hand is not at a job.
func idleModel(list []impl.Job, hands int64, plan []impl.Slot) []int64 {
	idle := make([]int64, hands)
	for day := range lengthOfModel(list, plan) {
		busy := busyModel(list, plan, day)
		for hand := range hands {
			if !slices.ContainsFunc(busy, func(job int64) bool { return int64(plan[job].Hand) == hand }) {
				idle[hand]++
			}
		}
	}
	return idle
}

// TestAllSmallPlans looks at all plans of some jobs with few hands and days, also those that are not valid.
func TestAllSmallPlans(t *testing.T) {
	good, bad := 0, 0
	for _, text := range []string{"", "1", "2", "1 1", "2 1", "1 2", "1,1 2", "2 1,0", "3 3", "1 1 1", "2 1,0 1", "1,2 2 1", "2 1,0 1,1", "1 1 2,0,1"} {
		list := jobs(text)
		plans := [][]impl.Slot{nil}
		for range list {
			var longer [][]impl.Slot
			for _, plan := range plans {
				for hand := int8(-1); hand <= 2; hand++ {
					for _, start := range []int16{-1, 0, 1, 2, 3, 1000, 1001} {
						longer = append(longer, append(slices.Clip(plan), impl.Slot{Hand: hand, Start: start}))
					}
				}
			}
			plans = longer
		}
		for i, plan := range plans {
			for hands := int64(1); hands <= 2; hands++ {
				if len(list) == 3 && (i+int(hands))%5 > 0 {
					continue
				}
				if wantSlots(t, list, hands, plan) {
					good++
				} else {
					bad++
				}
			}
		}
	}
	if good < 500 || bad < 5000 {
		t.Errorf("only %d plans are valid, and only %d are not", good, bad)
	}
}

// TestChangedPlans puts off, moves ahead or gives away one job of a plan, or takes all of it to the last days.
func TestChangedPlans(t *testing.T) {
	good, bad := 0, 0
	for i, list := range sampleLists() {
		for hands := int64(1); hands <= 4; hands++ {
			order, _ := impl.OrderOf(list)
			plan := planModel(list, hands, order)
			wantSlots(t, list, hands, plan)
			for job := range plan {
				changed := slices.Clone(plan)
				switch (i + job) % 4 {
				case 0:
					changed[job].Start++
				case 1:
					changed[job].Start--
				case 2:
					changed[job].Hand++
				default:
					changed[job].Start += 500
				}
				if wantSlots(t, list, hands, changed) {
					good++
				} else {
					bad++
				}
			}
			late := slices.Clone(plan)
			if len(plan) > 0 {
				last := slices.Max(startsOf(plan))
				for job := range late {
					late[job].Start += int16(1000 - last)
				}
			}
			wantEqual(t, "a plan of the last days", wantSlots(t, list, hands, late), true)
		}
	}
	if good < 200 || bad < 200 {
		t.Errorf("only %d plans are valid, and only %d are not", good, bad)
	}
}

func TestDaysOfPlansByHand(t *testing.T) {
	for _, c := range []struct {
		name, text string
		hands      int64
		plan       string
		length     int64
		idle       []int64
		busy       map[int64][]int64
	}{
		{"no jobs", "", 3, "", 0, []int64{0, 0, 0}, map[int64][]int64{0: nil, 1: nil, 2000: nil}},
		{"the example", "3 2,0 4 1,1,2", 2, "0:0 0:3 1:0 0:5", 6, []int64{0, 2}, map[int64][]int64{0: {0, 2}, 2: {0, 2}, 3: {1, 2}, 4: {1}, 5: {3}, 6: nil, 2000: nil}},
		{"a day on which nobody works", "2 3", 1, "0:4 0:0", 6, []int64{1}, map[int64][]int64{0: {1}, 2: {1}, 3: nil, 4: {0}, 5: {0}, 6: nil}},
		{"a hand that does nothing", "2 3", 3, "2:0 2:2", 5, []int64{5, 5, 0}, map[int64][]int64{1: {0}, 2: {1}, 4: {1}, 5: nil}},
		{"the last days", "30 1", 2, "0:1000 1:1000", 1030, []int64{1000, 1029}, map[int64][]int64{0: nil, 999: nil, 1000: {0, 1}, 1001: {0}, 1029: {0}, 1030: nil}},
		{"four at once", "1 1 1 1", 4, "3:0 2:0 1:0 0:0", 1, []int64{0, 0, 0, 0}, map[int64][]int64{0: {0, 1, 2, 3}, 1: nil}},
		{"the last job is done first", "5 1", 2, "0:0 1:0", 5, []int64{0, 4}, map[int64][]int64{0: {0, 1}, 1: {0}, 4: {0}, 5: nil}},
	} {
		list, plan := jobs(c.text), slots(c.plan)
		length, one := impl.LengthOfPlan(list, c.hands, plan)
		idle, two := impl.IdleDays(list, c.hands, plan)
		wantEqual(t, c.name, fmt.Sprint(length, one, idle, two), fmt.Sprint(c.length, impl.OK, c.idle, impl.OK))
		for day, want := range c.busy {
			busy, code := impl.BusyOn(list, c.hands, plan, day)
			wantEqual(t, fmt.Sprint(c.name, " on ", day), fmt.Sprint(busy, code), fmt.Sprint(want, impl.OK))
		}
	}
}
