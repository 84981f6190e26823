package tests

import (
	"fmt"
	"slices"
	"testing"

	"loop.example/g01322/impl"
)

// exampleJobs are the jobs of the document's example.
func exampleJobs() []impl.Job { return jobs("3 2,0 4 1,1,2") }

func TestValidJobs(t *testing.T) {
	for _, list := range sampleLists() {
		wantEqual(t, writtenJobs(list), impl.ValidJobs(list), true)
	}
	for name, list := range invalidLists() {
		wantEqual(t, name, impl.ValidJobs(list), false)
	}
	good := 0
	for count := range 4 {
		for _, list := range listsOf(count, 2) {
			want := goodJobs(list)
			wantEqual(t, fmt.Sprint(list), impl.ValidJobs(list), want)
			if want {
				good++
			}
		}
	}
	if good != 1+2+3*4+25*8 {
		t.Errorf("%d small lists are valid", good)
	}
	for days := -128; days <= 127; days++ {
		for after := range 1 << 16 {
			if days != 1 && days != 30 && after > 8 {
				break
			}
			list := []impl.Job{{Days: int8(days), After: uint16(after)}, {Days: 1}, {Days: 30}}
			if got, want := impl.ValidJobs(list), days >= 1 && days <= 30 && (after&^6) == 0; got != want {
				t.Errorf("%v: got %v", list, got)
			}
		}
	}
}

func TestJobsByHand(t *testing.T) {
	for _, c := range []struct {
		text                    string
		order, earliest, before []int64
		chain                   []int64
		sum                     int64
	}{
		{"", nil, nil, nil, nil, 0},
		{"1", []int64{0}, []int64{0}, []int64{0}, []int64{0}, 1},
		{"30", []int64{0}, []int64{0}, []int64{0}, []int64{0}, 30},
		{"3 2,0 4 1,1,2", []int64{0, 1, 2, 3}, []int64{0, 3, 0, 5}, []int64{0, 1, 0, 7}, []int64{0, 1, 3}, 6},
		{"1,1 1", []int64{1, 0}, []int64{1, 0}, []int64{2, 0}, []int64{1, 0}, 2},
		// The least index that may be taken comes first, also if it could not be taken before.
		{"1,2 1 1,1 1", []int64{1, 2, 0, 3}, []int64{2, 0, 1, 0}, []int64{6, 0, 2, 0}, []int64{1, 2, 0}, 3},
		{"1,3 1 1 1", []int64{1, 2, 3, 0}, []int64{1, 0, 0, 0}, []int64{8, 0, 0, 0}, []int64{3, 0}, 2},
		// Chains with equal sums: the first one as a list.
		{"2 2 2", []int64{0, 1, 2}, []int64{0, 0, 0}, []int64{0, 0, 0}, []int64{0}, 2},
		{"3 1 2,1", []int64{0, 1, 2}, []int64{0, 0, 1}, []int64{0, 0, 2}, []int64{0}, 3},
		{"1,2 3 2", []int64{1, 2, 0}, []int64{2, 0, 0}, []int64{4, 0, 0}, []int64{1}, 3},
		{"1 2,0 2,0 1,1,2", []int64{0, 1, 2, 3}, []int64{0, 1, 1, 3}, []int64{0, 1, 1, 7}, []int64{0, 1, 3}, 4},
		{"1 1,0 2,0 1,1", []int64{0, 1, 2, 3}, []int64{0, 1, 1, 2}, []int64{0, 1, 1, 3}, []int64{0, 1, 3}, 3},
		// A chain with fewer jobs may have more days.
		{"1 1,0 1,1 4", []int64{0, 1, 2, 3}, []int64{0, 1, 2, 0}, []int64{0, 1, 3, 0}, []int64{3}, 4},
		// A job that is waited for by two ways stands once before another one.
		{"30,1 30,2 30", []int64{2, 1, 0}, []int64{60, 30, 0}, []int64{6, 4, 0}, []int64{2, 1, 0}, 90},
	} {
		list := jobs(c.text)
		order, one := impl.OrderOf(list)
		early, two := impl.EarliestOf(list)
		chain, sum, three := impl.LongestChain(list)
		before, four := impl.BeforeAll(list)
		wantEqual(t, c.text+", codes", []int64{one, two, three, four}, make([]int64, 4))
		wantEqual(t, c.text+", order", fmt.Sprint(order), fmt.Sprint(c.order))
		wantEqual(t, c.text+", earliest days", fmt.Sprint(early), fmt.Sprint(c.earliest))
		wantEqual(t, c.text+", before", fmt.Sprint(before), fmt.Sprint(c.before))
		wantEqual(t, c.text+", chain", fmt.Sprint(chain, sum), fmt.Sprint(c.chain, c.sum))
	}
}

// TestPromise16Orders holds the order against all orders of the jobs, or, where there are many jobs, against the promise place by place.
func TestPromise16Orders(t *testing.T) {
	for _, list := range append(sampleLists(), smallLists()...) {
		order, code := impl.OrderOf(list)
		if code != impl.OK || !isOrderModel(list, order) {
			t.Fatalf("%v: got the order %v with the code %d", writtenJobs(list), order, code)
		}
		for place, job := range order {
			for _, behind := range order[place:] {
				if isBehindAll(list, order[:place], behind) && behind < job {
					t.Errorf("%v: in the order %v %d could come ahead of %d", writtenJobs(list), order, behind, job)
				}
			}
		}
		for first := range ordersOf(list) {
			wantEqual(t, writtenJobs(list), fmt.Sprint(order), fmt.Sprint(first))
			break
		}
	}
}

func TestPromise16BeforeAll(t *testing.T) {
	for _, list := range append(sampleLists(), smallLists()...) {
		before, code := impl.BeforeAll(list)
		if code != impl.OK || len(before) != len(list) {
			t.Fatalf("%v: got %v with the code %d", writtenJobs(list), before, code)
		}
		waits := waitsModel(list)
		order, _ := impl.OrderOf(list)
		for job := range indices(list) {
			for other := range int64(16) {
				want := other < int64(len(list)) && waits[job][other]
				if got := before[job]>>other&1 == 1; got != want {
					t.Errorf("%v: %d is before %d: got %v", writtenJobs(list), other, job, got)
				}
				if want && slices.Index(order, other) > slices.Index(order, job) {
					t.Errorf("%v: the order %v has %d behind %d", writtenJobs(list), order, other, job)
				}
			}
		}
	}
}

func TestPromise16EarliestDays(t *testing.T) {
	for _, list := range append(sampleLists(), smallLists()...) {
		early, code := impl.EarliestOf(list)
		if code != impl.OK || !slices.Equal(early, earliestModel(list)) {
			t.Fatalf("%v: got the earliest days %v with the code %d, want %v", writtenJobs(list), early, code, earliestModel(list))
		}
		order, _ := impl.OrderOf(list)
		for hands := int64(1); hands <= 4; hands++ {
			plan, _ := impl.PlanInOrder(list, hands, order)
			best, _, _ := impl.BestPlan(list, hands, 300)
			for _, made := range [][]impl.Slot{plan, best} {
				for job, s := range made {
					if int64(s.Start) < early[job] {
						t.Errorf("%v: the plan %v begins %d ahead of the day %d", writtenJobs(list), made, job, early[job])
					}
				}
			}
		}
	}
}

func TestLongestChain(t *testing.T) {
	several := 0
	for _, list := range append(sampleLists(), smallLists()...) {
		want := chainModel(list)
		chain, sum, code := impl.LongestChain(list)
		if code != impl.OK || !slices.Equal(chain, want) || sum != daysOf(list, want) {
			t.Errorf("%v: got the chain %v of %d days with the code %d, want %v", writtenJobs(list), chain, sum, code, want)
		}
		if early := earliestModel(list); sum != endOf(list, early) {
			t.Errorf("%v: the chain has %d days, but all can be done in %d", writtenJobs(list), sum, endOf(list, early))
		}
		if slices.ContainsFunc(chainsOf(list), func(other []int64) bool { return daysOf(list, other) == sum && !slices.Equal(other, want) }) {
			several++
		}
	}
	if several < 150 {
		t.Errorf("only %d lists have several longest chains", several)
	}
}

// TestPromise16LatestDays holds the latest days against those that are found by putting jobs off, with as many days as are just enough, one too few, and more.
func TestPromise16LatestDays(t *testing.T) {
	for _, list := range append(sampleLists(), smallLists()...) {
		enough := endOf(list, earliestModel(list))
		for _, days := range []int64{enough, enough - 1, enough + 1, enough + 17, 0, enough / 2} {
			if days < 0 {
				continue
			}
			latest, code := impl.LatestOf(list, days)
			if days < enough {
				wantEqual(t, fmt.Sprint(writtenJobs(list), " in ", days), []any{len(latest), code}, []any{0, int64(impl.ErrNotFound)})
				continue
			}
			want := latestModel(list, days)
			if code != impl.OK || !slices.Equal(latest, want) {
				t.Errorf("%v in %d: got the latest days %v with the code %d, want %v", writtenJobs(list), days, latest, code, want)
			}
			for job, day := range earliestModel(list) {
				if latest[job] < day {
					t.Errorf("%v in %d: %d begins on the day %d at the latest, but on %d at the earliest", writtenJobs(list), days, job, latest[job], day)
				}
			}
		}
	}
}

func TestLatestDaysByHand(t *testing.T) {
	for _, c := range []struct {
		text string
		days int64
		want []int64
		code int64
	}{
		{"3 2,0 4 1,1,2", 7, []int64{1, 4, 2, 6}, impl.OK},
		{"3 2,0 4 1,1,2", 6, []int64{0, 3, 1, 5}, impl.OK},
		{"3 2,0 4 1,1,2", 5, nil, impl.ErrNotFound},
		{"3 2,0 4 1,1,2", 1000, []int64{994, 997, 995, 999}, impl.OK},
		{"3 2,0 4 1,1,2", 1001, nil, impl.ErrRange},
		{"3 2,0 4 1,1,2", 0, nil, impl.ErrNotFound},
		{"3 2,0 4 1,1,2", -1, nil, impl.ErrRange},
		{"1", 0, nil, impl.ErrNotFound},
		{"1", 1, []int64{0}, impl.OK},
		{"30", 29, nil, impl.ErrNotFound},
		{"30", 30, []int64{0}, impl.OK},
		{"30", 1000, []int64{970}, impl.OK},
		{"", 0, nil, impl.OK},
		{"", 1000, nil, impl.OK},
		{"", -1, nil, impl.ErrRange},
		{"", 1001, nil, impl.ErrRange},
		// What nobody waits for may begin later than what comes behind in the list.
		{"2 1 5,0", 7, []int64{0, 6, 2}, impl.OK},
	} {
		latest, code := impl.LatestOf(jobs(c.text), c.days)
		wantEqual(t, fmt.Sprint(c.text, " in ", c.days), fmt.Sprint(latest, code), fmt.Sprint(c.want, c.code))
	}
}
