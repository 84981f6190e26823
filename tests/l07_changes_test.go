package tests

import (
	"fmt"
	"slices"
	"testing"

	"loop.example/g01322/impl"
)

// pairsOf are the pairs of indices of which the first one waits for the second.
func pairsOf(list []impl.Job) [][2]int64 {
	var pairs [][2]int64
	for job := range indices(list) {
		for before := range indices(list) {
			if needs(list, job, before) {
				pairs = append(pairs, [2]int64{job, before})
			}
		}
	}
	return pairs
}

// fromPairs returns jobs with some days that wait for each other as pairs tell it.
func fromPairs(days []int8, pairs [][2]int64) []impl.Job {
	list := make([]impl.Job, len(days))
	for job := range list {
		list[job].Days = days[job]
	}
	for _, pair := range pairs {
		list[pair[0]].After |= 1 << pair[1]
	}
	return list
}

// dropModel draws the pairs of the jobs that are left, and those by way of the job that is not.
func dropModel(list []impl.Job, dropped int64) []impl.Job {
	var days []int8
	place := map[int64]int64{}
	for job, j := range list {
		if int64(job) != dropped {
			place[int64(job)] = int64(len(days))
			days = append(days, j.Days)
		}
	}
	var pairs [][2]int64
	all := pairsOf(list)
	for _, pair := range all {
		if pair[0] != dropped && pair[1] != dropped {
			pairs = append(pairs, [2]int64{place[pair[0]], place[pair[1]]})
		}
		for _, other := range all {
			if pair[1] == dropped && other[0] == dropped {
				pairs = append(pairs, [2]int64{place[pair[0]], place[other[1]]})
			}
		}
	}
	return fromPairs(days, pairs)
}

func TestDropJobByHand(t *testing.T) {
	twelve := "1 2,0 3,1 4,2 5,3 6,4 7,5 8,6 9,7 10,8 11,9 12,10"
	for _, c := range []struct {
		text string
		job  int64
		want string
		code int64
	}{
		{"3 2,0 4 1,1,2", 1, "3 4 1,0,1", impl.OK},
		{"3 2,0 4 1,1,2", 0, "2 4 1,0,1", impl.OK},
		{"3 2,0 4 1,1,2", 2, "3 2,0 1,1", impl.OK},
		{"3 2,0 4 1,1,2", 3, "3 2,0 4", impl.OK},
		{"3 2,0 4 1,1,2", 4, "", impl.ErrRange},
		{"3 2,0 4 1,1,2", -1, "", impl.ErrRange},
		{"7", 0, "", impl.OK},
		{"7", 1, "", impl.ErrRange},
		{"", 0, "", impl.ErrRange},
		// The job waits for one behind it in the list.
		{"1,1 2,2 3", 1, "1,1 3", impl.OK},
		{"1,2 2 3,1", 2, "1,1 2", impl.OK},
		{"1,2 2 3,1", 0, "2 3,0", impl.OK},
		// It waits for what is waited for already.
		{"1 2,0 3,0,1", 1, "1 3,0", impl.OK},
		{"1 2 3,0,1 4,2 5,2", 2, "1 2 4,0,1 5,0,1", impl.OK},
		{twelve, 0, "2 3,0 4,1 5,2 6,3 7,4 8,5 9,6 10,7 11,8 12,9", impl.OK},
		{twelve, 5, "1 2,0 3,1 4,2 5,3 7,4 8,5 9,6 10,7 11,8 12,9", impl.OK},
		{twelve, 11, "1 2,0 3,1 4,2 5,3 6,4 7,5 8,6 9,7 10,8 11,9", impl.OK},
		{twelve, 12, "", impl.ErrRange},
	} {
		list, code := impl.DropJob(jobs(c.text), c.job)
		wantEqual(t, fmt.Sprint(c.text, " without ", c.job), fmt.Sprint(writtenJobs(list), len(list), code), fmt.Sprint(c.want, len(jobs(c.want)), c.code))
	}
}

func TestDropJob(t *testing.T) {
	for _, list := range append(sampleLists(), smallLists()...) {
		before := waitsModel(list)
		for job := range indices(list) {
			want := dropModel(list, job)
			rest, code := impl.DropJob(list, job)
			if code != impl.OK || !slices.Equal(rest, want) || !impl.ValidJobs(rest) {
				t.Errorf("%s without %d: got %s with the code %d, want %s", writtenJobs(list), job, writtenJobs(rest), code, writtenJobs(want))
			}
			// Of those that are left just the same ones have to be done before each other.
			now := waitsModel(rest)
			were := slices.Delete(slices.Collect(indices(list)), int(job), int(job)+1)
			for one := range indices(rest) {
				for other := range indices(rest) {
					if now[one][other] != before[were[one]][were[other]] {
						t.Errorf("%s without %d: %d waits for %d: got %v", writtenJobs(list), job, one, other, now[one][other])
					}
				}
			}
		}
	}
}

func TestChainJobsByHand(t *testing.T) {
	for _, c := range []struct {
		text          string
		first, second int64
		want          string
		code          int64
	}{
		{"3 2,0 4 1,1,2", 2, 1, "3 2,0,2 4 1,1,2", impl.OK},
		{"3 2,0 4 1,1,2", 0, 2, "3 2,0 4,0 1,1,2", impl.OK},
		// It waits already, by itself or by way of another one.
		{"3 2,0 4 1,1,2", 0, 1, "3 2,0 4 1,1,2", impl.OK},
		{"3 2,0 4 1,1,2", 0, 3, "3 2,0 4 1,0,1,2", impl.OK},
		// For itself, or in a circle.
		{"3 2,0 4 1,1,2", 0, 0, "", impl.ErrState},
		{"3 2,0 4 1,1,2", 3, 3, "", impl.ErrState},
		{"3 2,0 4 1,1,2", 1, 0, "", impl.ErrState},
		{"3 2,0 4 1,1,2", 3, 0, "", impl.ErrState},
		{"3 2,0 4 1,1,2", 3, 2, "", impl.ErrState},
		{"3 2,0 4 1,1,2", 4, 0, "", impl.ErrRange},
		{"3 2,0 4 1,1,2", 0, 4, "", impl.ErrRange},
		{"3 2,0 4 1,1,2", -1, 0, "", impl.ErrRange},
		{"3 2,0 4 1,1,2", 0, -1, "", impl.ErrRange},
		{"3 2,0 4 1,1,2", 4, 4, "", impl.ErrRange},
		{"1 1", 0, 1, "1 1,0", impl.OK},
		{"1 1", 1, 0, "1,1 1", impl.OK},
		{"1", 0, 0, "", impl.ErrState},
		{"", 0, 0, "", impl.ErrRange},
		{"1 1 1 1 1 1 1 1 1 1 1 1", 11, 0, "1,11 1 1 1 1 1 1 1 1 1 1 1", impl.OK},
		{"1 1 1 1 1 1 1 1 1 1 1 1", 0, 11, "1 1 1 1 1 1 1 1 1 1 1 1,0", impl.OK},
		{"1 1 1 1 1 1 1 1 1 1 1 1", 0, 12, "", impl.ErrRange},
		{"1 1,0 1,1 1,2 1,3 1,4 1,5 1,6 1,7 1,8 1,9 1,10", 11, 0, "", impl.ErrState},
		{"1 1,0 1,1 1,2 1,3 1,4 1,5 1,6 1,7 1,8 1,9 1,10", 0, 11, "1 1,0 1,1 1,2 1,3 1,4 1,5 1,6 1,7 1,8 1,9 1,0,10", impl.OK},
	} {
		list, code := impl.ChainJobs(jobs(c.text), c.first, c.second)
		wantEqual(t, fmt.Sprint(c.text, " with ", c.second, " behind ", c.first), fmt.Sprint(writtenJobs(list), code), fmt.Sprint(c.want, c.code))
	}
}

func TestChainJobs(t *testing.T) {
	for _, list := range append(sampleLists(), smallLists()...) {
		var days []int8
		for _, j := range list {
			days = append(days, j.Days)
		}
		waits := waitsModel(list)
		for first := range indices(list) {
			for second := range indices(list) {
				want := fromPairs(days, append(pairsOf(list), [2]int64{second, first}))
				code := int64(impl.OK)
				if first == second || waits[first][second] {
					want, code = nil, impl.ErrState
				}
				chained, got := impl.ChainJobs(list, first, second)
				if got != code || !slices.Equal(chained, want) {
					t.Errorf("%s with %d behind %d: got %s with the code %d, want %s with the code %d", writtenJobs(list), second, first, writtenJobs(chained), got, writtenJobs(want), code)
				}
			}
		}
	}
}
