package tests

import (
	"fmt"
	"iter"
	"slices"
	"strconv"
	"strings"

	"loop.example/g01322/impl"
)

// The models of these tests tell what the document requires by other ways than the program: who waits for whom from a table of all pairs, days by moving jobs back until nothing changes, chains from all of them, plans day by day, the search for the best one by counting through orders, and the shortest length of all from what can be left to do on each day.

// jobs returns the jobs that are written in a text; they need not be valid.
func jobs(text string) []impl.Job {
	var list []impl.Job
	for word := range strings.FieldsSeq(text) {
		var j impl.Job
		for i, number := range strings.Split(word, ",") {
			n, err := strconv.Atoi(number)
			if err != nil {
				panic(text)
			}
			if i == 0 {
				j.Days = int8(n)
			} else {
				j.After |= 1 << n
			}
		}
		list = append(list, j)
	}
	return list
}

// writtenJobs returns the text that jobs should have.
func writtenJobs(list []impl.Job) string {
	var words []string
	for _, j := range list {
		word := fmt.Sprint(j.Days)
		for bit := range 16 {
			if j.After&(1<<bit) != 0 {
				word += fmt.Sprint(",", bit)
			}
		}
		words = append(words, word)
	}
	return strings.Join(words, " ")
}

// slots returns the plan that is written in a text: for each job the hand and the day.
func slots(text string) []impl.Slot {
	var plan []impl.Slot
	for word := range strings.FieldsSeq(text) {
		var s impl.Slot
		if _, err := fmt.Sscanf(word, "%d:%d", &s.Hand, &s.Start); err != nil {
			panic(text)
		}
		plan = append(plan, s)
	}
	return plan
}

func writtenSlots(plan []impl.Slot) string {
	var words []string
	for _, s := range plan {
		words = append(words, fmt.Sprint(s.Hand, ":", s.Start))
	}
	return strings.Join(words, " ")
}

func needs(list []impl.Job, job, before int64) bool { return list[job].After&(1<<before) != 0 }

func takes(list []impl.Job, job int64) int64 { return int64(list[job].Days) }

func indices(list []impl.Job) iter.Seq[int64] {
	return func(yield func(int64) bool) {
		for job := range int64(len(list)) {
			if !yield(job) {
				return
			}
		}
	}
}

// waitsModel tells who waits for whom, also by others between: each job between is added in turn to all pairs.
func waitsModel(list []impl.Job) [12][12]bool {
	var waits [12][12]bool
	for job := range indices(list) {
		for before := range indices(list) {
			waits[job][before] = needs(list, job, before)
		}
	}
	for between := range indices(list) {
		for job := range indices(list) {
			for before := range indices(list) {
				waits[job][before] = waits[job][before] || waits[job][between] && waits[between][before]
			}
		}
	}
	return waits
}

func goodJobs(list []impl.Job) bool {
	if len(list) > 12 {
		return false
	}
	for _, j := range list {
		if j.Days < 1 || j.Days > 30 || int(j.After)>>len(list) > 0 {
			return false
		}
	}
	waits := waitsModel(list)
	for job := range indices(list) {
		if waits[job][job] {
			return false
		}
	}
	return true
}

// listsOf are all lists of so many jobs with at most so many days; bits may stand for one job more than there is.
func listsOf(count int, most int8) [][]impl.Job {
	lists := [][]impl.Job{nil}
	for range count {
		var longer [][]impl.Job
		for _, list := range lists {
			for days := int8(1); days <= most; days++ {
				for after := range uint16(2) << count {
					longer = append(longer, append(slices.Clip(list), impl.Job{Days: days, After: after}))
				}
			}
		}
		lists = longer
	}
	return lists
}

// smallLists are all valid lists of at most 3 jobs with at most 3 days, and those of 4 jobs with some days.
func smallLists() [][]impl.Job {
	var lists [][]impl.Job
	for count := range 4 {
		lists = append(lists, slices.DeleteFunc(listsOf(count, 3), func(list []impl.Job) bool { return !goodJobs(list) })...)
	}
	for i, list := range listsOf(4, 1) {
		for job := range list {
			list[job].Days = []int8{1, 3, 2, 1, 4}[(i/7+job*(i%3+1))%5]
		}
		if goodJobs(list) {
			lists = append(lists, list)
		}
	}
	return lists
}

// scatteredJobs returns jobs that follow a rule without order; each one waits for so many eighths of those ahead of it in an order that is not that of the indices.
func scatteredJobs(count, most, eighths, seed int) []impl.Job {
	state := uint32(seed)*2654435761 + uint32(count*100+most)
	next := func(below int) int {
		state = state*1664525 + 1013904223
		return int(state>>16) % below
	}
	var order []int
	for i := range count {
		order = slices.Insert(order, next(i+1), i)
	}
	list := make([]impl.Job, count)
	for place, job := range order {
		list[job].Days = int8(1 + next(most))
		for _, before := range order[:place] {
			if next(8) < eighths {
				list[job].After |= 1 << before
			}
		}
	}
	return list
}

// edgeLists have the edge cases that the document names.
func edgeLists() [][]impl.Job {
	list := [][]impl.Job{nil, {}}
	for _, text := range []string{
		"1", "30", "1 1", "1 1,0", "1,1 1", "30 30,0", "3 2,0 4 1,1,2", "2 2,0 2,0 2,1,2", "1 2 3 3 2 1", "5,1 4,2 3,3 2,4 1",
		"2 3 1,0,1 3,0 2,1", "1 1,0 1,1 1,2 1,3 1,4 1,5 1,6 1,7 1,8 1,9 1,10", "30,1 30,2 30,3 30,4 30,5 30,6 30,7 30,8 30,9 30,10 30,11 30",
		"1 1 1 1 1 1 1 1 1 1 1 1", "30 30 30 30 30 30 30 30 30 30 30 30", "1 2,0 3,0,1 4,0,1,2 5,0,1,2,3 6,0,1,2,3,4 7,0,1,2,3,4,5 8,0,1,2,3,4,5,6 9,0,1,2,3,4,5,6,7 10,0,1,2,3,4,5,6,7,8 11,0,1,2,3,4,5,6,7,8,9 12,0,1,2,3,4,5,6,7,8,9,10",
		"4 4 4 4,0,1,2 4,0,1,2 4,0,1,2", "7,5 3,5 3,5 3,5 1,1,2,3 2",
		// Plans in the order of the indices are longer than the best one.
		"1 1 2", "2 2 3 1,0", "2 2 2 3 3", "1 1 1 1 1 5", "1 3,0 2 2,2 4 1,4 3",
		// No plan for 2 hands is as short as the bound.
		"2 2 2", "3 3 3 3 3", "1 1,0 2", "2 2,0 2,0 2,0", "5 5 5 4 4",
	} {
		list = append(list, jobs(text))
	}
	return list
}

func sampleLists() [][]impl.Job {
	lists := edgeLists()
	for count := range 13 {
		for seed := range 6 {
			lists = append(lists, scatteredJobs(count, []int{1, 3, 7, 30}[seed%4], seed, seed*13+count))
		}
	}
	return lists
}

// invalidLists have each one thing that makes them invalid.
func invalidLists() map[string][]impl.Job {
	lists := map[string][]impl.Job{
		"13 jobs":              jobs(strings.Repeat("1 ", 13)),
		"13 jobs in a chain":   append(jobs("1 1,0 1,1 1,2 1,3 1,4 1,5 1,6 1,7 1,8 1,9 1,10"), impl.Job{Days: 1, After: 1 << 11}),
		"16 jobs":              jobs(strings.Repeat("30 ", 16)),
		"17 jobs":              jobs(strings.Repeat("1 ", 17)),
		"a million":            slices.Repeat([]impl.Job{{Days: 1}}, 1000000),
		"nothing at all":       {{}},
		"for itself":           jobs("1,0"),
		"the last for itself":  jobs("1 1,0 1,2"),
		"for each other":       jobs("1,1 1,0"),
		"others between":       jobs("1,3 1 1 1,0"),
		"a circle of 3":        jobs("1,1 1,2 1,0"),
		"a circle of 12":       jobs("1,11 1,0 1,1 1,2 1,3 1,4 1,5 1,6 1,7 1,8 1,9 1,10"),
		"a circle behind":      jobs("1 1,0,3 1,1 1,2"),
		"a circle ahead":       jobs("1,2 1,0 1,1 1,2"),
		"no such job":          jobs("1 1,2"),
		"no such job of 1":     jobs("1,1"),
		"no such job, highest": jobs("1 1,15"),
		"no job 12":            jobs("1 1 1 1 1 1 1 1 1 1 1 1,12"),
		"bits of all":          {{Days: 1}, {Days: 1, After: 0xffff}},
	}
	for _, days := range []int8{-128, -30, -1, 0, 31, 32, 127} {
		lists[fmt.Sprint("days ", days)] = []impl.Job{{Days: days}}
		lists[fmt.Sprint("last days ", days)] = append(jobs("1 1,0"), impl.Job{Days: days})
		lists[fmt.Sprint("first of 12, days ", days)] = append([]impl.Job{{Days: days}}, jobs(strings.Repeat("1 ", 11))...)
	}
	return lists
}

// ordersOf goes through all orders in which each job comes behind those for which it waits, in the order of lists.
func ordersOf(list []impl.Job) iter.Seq[[]int64] {
	return func(yield func([]int64) bool) {
		var add func(order []int64) bool
		add = func(order []int64) bool {
			if len(order) == len(list) {
				return yield(order)
			}
			for job := range indices(list) {
				if !slices.Contains(order, job) && isBehindAll(list, order, job) && !add(append(slices.Clone(order), job)) {
					return false
				}
			}
			return true
		}
		add(nil)
	}
}

// isBehindAll tells whether all jobs for which a job waits are among those of an order.
func isBehindAll(list []impl.Job, order []int64, job int64) bool {
	for before := range indices(list) {
		if needs(list, job, before) && !slices.Contains(order, before) {
			return false
		}
	}
	return true
}

// isOrderModel tells whether an order has each index once, and each job behind those for which it waits.
func isOrderModel(list []impl.Job, order []int64) bool {
	for job := range indices(list) {
		place := slices.Index(order, job)
		if place < 0 || !isBehindAll(list, order[:place], job) {
			return false
		}
	}
	return len(order) == len(list)
}

// soonestModel tells when all jobs begin that are moved back until none is too early; none begins ahead of the day that is told for it.
func soonestModel(list []impl.Job, from []int64) []int64 {
	starts := slices.Clone(from)
	for changed := true; changed; {
		changed = false
		for job := range indices(list) {
			for before := range indices(list) {
				if needs(list, job, before) && starts[job] < starts[before]+takes(list, before) {
					starts[job]++
					changed = true
				}
			}
		}
	}
	return starts
}

func earliestModel(list []impl.Job) []int64 { return soonestModel(list, make([]int64, len(list))) }

// endOf tells when the last job is done.
func endOf(list []impl.Job, starts []int64) int64 {
	end := int64(0)
	for job, start := range starts {
		end = max(end, start+takes(list, int64(job)))
	}
	return end
}

// latestModel puts off each job by a day, as long as all can be done; it tells nothing if they cannot be.
func latestModel(list []impl.Job, days int64) []int64 {
	early := earliestModel(list)
	if endOf(list, early) > days {
		return nil
	}
	latest := make([]int64, len(list))
	for job := range latest {
		from := slices.Clone(early)
		for endOf(list, soonestModel(list, from)) <= days {
			latest[job] = from[job]
			from[job]++
		}
	}
	return latest
}

// chainsOf are all chains, and the empty one.
func chainsOf(list []impl.Job) [][]int64 {
	chains := [][]int64{nil}
	for first := 0; first < len(chains); first++ {
		chain := chains[first]
		for job := range indices(list) {
			if len(chain) == 0 || needs(list, job, chain[len(chain)-1]) {
				chains = append(chains, append(slices.Clone(chain), job))
			}
		}
	}
	return chains
}

func daysOf(list []impl.Job, some []int64) int64 {
	sum := int64(0)
	for _, job := range some {
		sum += takes(list, job)
	}
	return sum
}

// chainModel tells the longest chain, of several the one that comes first as a list.
func chainModel(list []impl.Job) []int64 {
	var best []int64
	for _, chain := range chainsOf(list) {
		more := daysOf(list, chain) - daysOf(list, best)
		if more > 0 || more == 0 && slices.Compare(chain, best) < 0 {
			best = chain
		}
	}
	return best
}

func boundModel(list []impl.Job, hands int64) int64 {
	bound := endOf(list, earliestModel(list))
	for bound*hands < daysOf(list, slices.Collect(indices(list))) {
		bound++
	}
	return bound
}

// noSlot is the slot of a job that has none.
var noSlot = impl.Slot{Hand: -1, Start: -1}

// slotModel goes through the days, and on each day through the hands, until a hand can begin the job, and has nothing to do from then on.
func slotModel(list []impl.Job, hands int64, plan []impl.Slot, job int64) impl.Slot {
	for day := int64(0); ; day++ {
		for hand := range hands {
			can := true
			for other, s := range plan {
				stands := s != noSlot && (needs(list, job, int64(other)) || int64(s.Hand) == hand)
				can = can && !(stands && int64(s.Start)+takes(list, int64(other)) > day)
			}
			if can {
				return impl.Slot{Hand: int8(hand), Start: int16(day)}
			}
		}
	}
}

// planModel tells the plan in an order of some jobs.
func planModel(list []impl.Job, hands int64, order []int64) []impl.Slot {
	plan := slices.Repeat([]impl.Slot{noSlot}, len(list))
	for _, job := range order {
		plan[job] = slotModel(list, hands, plan, job)
	}
	return plan
}

func startsOf(plan []impl.Slot) []int64 {
	var starts []int64
	for _, s := range plan {
		starts = append(starts, int64(s.Start))
	}
	return starts
}

// lengthOfModel tells the day behind the last one on which somebody works.
func lengthOfModel(list []impl.Job, plan []impl.Slot) int64 {
	length := int64(0)
	for job := range indices(list) {
		for _, day := range daysAt(list, plan, job) {
			length = max(length, day+1)
		}
	}
	return length
}

// daysAt tells the days on which somebody works at a job.
func daysAt(list []impl.Job, plan []impl.Slot, job int64) []int64 {
	var days []int64
	for i := range takes(list, job) {
		days = append(days, int64(plan[job].Start)+i)
	}
	return days
}

func busyModel(list []impl.Job, plan []impl.Slot, day int64) []int64 {
	var busy []int64
	for job := range plan {
		if slices.Contains(daysAt(list, plan, int64(job)), day) {
			busy = append(busy, int64(job))
		}
	}
	return busy
}

// wrongModel tells the first job whose slot is wrong, or -1: it looks at all days on which it is worked at.
func wrongModel(list []impl.Job, hands int64, plan []impl.Slot) int64 {
	told := func(job int64) bool {
		s := plan[job]
		return s.Hand >= 0 && int64(s.Hand) < hands && s.Start >= 0 && s.Start <= 1000
	}
	for job := range indices(list) {
		if !told(job) {
			return job
		}
		for other := range indices(list) {
			if !told(other) {
				continue
			}
			for _, day := range daysAt(list, plan, other) {
				early := needs(list, job, other) && int64(plan[job].Start) <= day
				both := other < job && plan[other].Hand == plan[job].Hand && slices.Contains(daysAt(list, plan, job), day)
				if early || both {
					return job
				}
			}
		}
	}
	return -1
}

func goodPlan(list []impl.Job, hands int64, plan []impl.Slot) bool {
	return goodJobs(list) && hands >= 1 && hands <= 4 && len(plan) == len(list) && wrongModel(list, hands, plan) < 0
}

// leftToDo is what there is to do on a day: the days that are left of each job, and which ones have begun.
type leftToDo struct {
	days  [12]int8
	begun uint16
}

// shortestModel tells in how many days all jobs can be done: on each day it begins any of the jobs that are ready, as long as there are hands for them.
func shortestModel(list []impl.Job, hands int) int64 {
	var first leftToDo
	for job, j := range list {
		first.days[job] = j.Days
	}
	today := map[leftToDo]bool{first: true}
	for day := int64(0); ; day++ {
		tomorrow := map[leftToDo]bool{}
		for state := range today {
			if state.days == [12]int8{} {
				return day
			}
			for _, begun := range beginnings(list, hands, state) {
				tomorrow[workedOn(state, begun)] = true
			}
		}
		today = tomorrow
	}
}

// beginnings are all sets of jobs that may have begun when this day's work begins.
func beginnings(list []impl.Job, hands int, state leftToDo) []uint16 {
	free := hands
	var ready []int
	for job := range list {
		switch begun := state.begun&(1<<job) != 0; {
		case begun && state.days[job] > 0:
			free--
		case !begun && !slices.ContainsFunc(setOf(uint(list[job].After)), func(before int64) bool { return state.days[before] > 0 }):
			ready = append(ready, job)
		}
	}
	var sets []uint16
	for some := range uint(1) << len(ready) {
		if added := setOf(some); len(added) <= free {
			begun := state.begun
			for _, i := range added {
				begun |= 1 << ready[i]
			}
			sets = append(sets, begun)
		}
	}
	return sets
}

// workedOn tells what is left when a day's work has been done at all jobs that have begun.
func workedOn(state leftToDo, begun uint16) leftToDo {
	state.begun = begun
	for job := range state.days {
		if begun&(1<<job) != 0 && state.days[job] > 0 {
			state.days[job]--
		}
	}
	return state
}

// searched is what a search for the best plan comes to.
type searched struct {
	plan          []impl.Slot
	length, tries int64
	enough        bool // the budget
}

// searchModel counts through all orders, as the document tells it; there are as many plans as jobs in the order, each one with a job more than the one before.
func searchModel(list []impl.Job, hands, budget int64) searched {
	best := searched{length: -1, enough: true}
	plans := [][]impl.Slot{planModel(list, hands, nil)}
	var order []int64
	next, tries, bound := int64(0), int64(0), boundModel(list, hands)
	for {
		plan := plans[len(order)]
		if len(order) == len(list) {
			if length := endOf(list, startsOf(plan)); best.length < 0 || length < best.length {
				best = searched{plan, length, 0, true}
			}
		}
		if best.length == bound || len(order) == 0 && next == int64(len(list)) {
			best.tries = tries
			return best
		}
		if next == int64(len(list)) {
			next = order[len(order)-1] + 1
			order = order[:len(order)-1]
			plans = plans[:len(plans)-1]
			continue
		}
		job := next
		next++
		if slices.Contains(order, job) || !isBehindAll(list, order, job) {
			continue
		}
		longer := slices.Clone(plan)
		longer[job] = slotModel(list, hands, plan, job)
		if best.length >= 0 && int64(longer[job].Start)+takes(list, job) >= best.length {
			continue
		}
		if tries == budget {
			return searched{}
		}
		tries++
		order, plans, next = append(order, job), append(plans, longer), 0
	}
}
