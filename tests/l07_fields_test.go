package tests

import (
	"fmt"
	"slices"
	"testing"

	"loop.example/g01322/impl"
)

// jobsModel tells the jobs for a picture from the least number of each field and from all pairs of neighbours.
func jobsModel(p impl.Picture, perDay int64) ([]impl.Job, int64) {
	least := linked(p)
	index := map[int64]int{}
	var list []impl.Job
	tooLong := false
	for _, cell := range cellsOf(p) {
		if least[cell] != cell || p.Cells[cell] == 0 {
			continue
		}
		cells, days := int64(len(fieldFrom(least, cell))), int64(0)
		for days*perDay < cells {
			days++
		}
		tooLong = tooLong || days > 30
		index[cell] = len(list)
		list = append(list, impl.Job{Days: int8(days)})
	}
	if tooLong || len(list) > 12 {
		return nil, impl.ErrLimit
	}
	for _, cell := range cellsOf(p) {
		for _, next := range besides(p, cell) {
			if p.Cells[next] > 0 && p.Cells[next] < p.Cells[cell] {
				list[index[least[cell]]].After |= 1 << index[least[next]]
			}
		}
	}
	return list, impl.OK
}

func TestJobsForByHand(t *testing.T) {
	for _, c := range []struct {
		picture string
		perDay  int64
		text    string
		code    int64
	}{
		{"aab/abb", 2, "2 2,0", impl.OK},
		{"aab/abb", 3, "1 1,0", impl.OK},
		{"aab/abb", 1, "3 3,0", impl.OK},
		{"aab/abb", 144, "1 1,0", impl.OK},
		{"aab/abb", 0, "", impl.ErrRange},
		{"aab/abb", 145, "", impl.ErrRange},
		{"aab/abb", -1, "", impl.ErrRange},
		// Pictures without stones need no work.
		{".", 1, "", impl.OK},
		{"..../....", 144, "", impl.OK},
		{".", 0, "", impl.ErrRange},
		{"o", 1, "1", impl.OK},
		// The order is that of the least cells, not that of the colours.
		{"ba", 1, "1,1 1", impl.OK},
		{"cba", 1, "1,1 1,2 1", impl.OK},
		{".b/a.", 1, "1 1", impl.OK},
		{".b/ab", 1, "2,1 1", impl.OK},
		// Fields of one colour are jobs of their own, and do not wait for each other.
		{"aba", 1, "1 1,0,2 1", impl.OK},
		{"bab", 1, "1,1 1 1,1", impl.OK},
		{"a.a", 1, "1 1", impl.OK},
		{"ab/ba", 1, "1 1,0,3 1,0,3 1", impl.OK},
		// Nothing waits across cells without a stone, nor at corners.
		{"a.b", 1, "1 1", impl.OK},
		{"a./.b", 1, "1 1", impl.OK},
		// Several sides count once, and one side is enough.
		{"aaa/bbb/b.a", 2, "2 2,0,2 1", impl.OK},
		{"abc/bcd/cde", 1, "1 1,0 1,1 1,0 1,1,3 1,2,4 1,3 1,4,6 1,5,7", impl.OK},
		{"aac/bbc", 1, "2 2,0,2 2,0", impl.OK},
	} {
		list, code := impl.JobsFor(lined(c.picture), c.perDay)
		if want, wantCode := jobsModel(lined(c.picture), max(c.perDay, 1)); c.perDay >= 1 && c.perDay <= 144 {
			wantEqual(t, fmt.Sprint(c.picture, " with ", c.perDay, ", by the model"), fmt.Sprint(writtenJobs(list), code), fmt.Sprint(writtenJobs(want), wantCode))
		}
		wantEqual(t, fmt.Sprint(c.picture, " with ", c.perDay), fmt.Sprint(writtenJobs(list), code), fmt.Sprint(c.text, c.code))
	}
}

func TestJobsForLimits(t *testing.T) {
	twelve, thirteen := lined("abababababab"), lined("abababababab/...........a")
	list, code := impl.JobsFor(twelve, 144)
	wantEqual(t, "12 fields", fmt.Sprint(writtenJobs(list), code), "1 1,0,2 1 1,2,4 1 1,4,6 1 1,6,8 1 1,8,10 1 1,100")
	list, code = impl.JobsFor(thirteen, 144)
	wantEqual(t, "12 fields, and one that is joined", fmt.Sprint(len(list), code), fmt.Sprint(0, impl.ErrLimit))
	for _, c := range []struct {
		name   string
		p      impl.Picture
		perDay int64
		text   string
		code   int64
	}{
		{"13 fields", lined("abababababab/b..........."), 1, "", impl.ErrLimit},
		{"13 fields, and most a day", lined("a.a.a.a.a.a./.a.a.a.a.a.a/a..........."), 144, "", impl.ErrLimit},
		{"72 fields", lined("a.a.a.a.a.a./.a.a.a.a.a.a/a.a.a.a.a.a./.a.a.a.a.a.a/a.a.a.a.a.a./.a.a.a.a.a.a/a.a.a.a.a.a./.a.a.a.a.a.a/a.a.a.a.a.a./.a.a.a.a.a.a/a.a.a.a.a.a./.a.a.a.a.a.a"), 1, "", impl.ErrLimit},
		{"13 fields, and none a day", lined("abababababab/b..........."), 0, "", impl.ErrRange},
		{"many fields of cells without stones", lined(".a.a.a.a.a.a/aaaaaaaaaaaa/.a.a.a.a.a.a"), 4, "6", impl.OK},
		{"30 days", plain(10, 3, "a"), 1, "30", impl.OK},
		{"30 days of 2", plain(12, 5, "a"), 2, "30", impl.OK},
		{"31 cells", lined("aaaaaaaaaa/aaaaaaaaaa/aaaaaaaaaa/.........a"), 1, "", impl.ErrLimit},
		{"61 cells, 2 a day", lined("aaaaaaaaaaaa/aaaaaaaaaaaa/aaaaaaaaaaaa/aaaaaaaaaaaa/aaaaaaaaaaaa/a..........."), 2, "", impl.ErrLimit},
		{"144 cells, 4 a day", plain(12, 12, "a"), 4, "", impl.ErrLimit},
		{"144 cells, 5 a day", plain(12, 12, "o"), 5, "29", impl.OK},
		{"144 cells, 1 a day", plain(12, 12, "a"), 1, "", impl.ErrLimit},
		{"144 cells, 143 a day", plain(12, 12, "a"), 143, "2", impl.OK},
		{"144 cells, 144 a day", plain(12, 12, "a"), 144, "1", impl.OK},
		{"144 cells without stones, 1 a day", plain(12, 12, "."), 1, "", impl.OK},
		{"31 cells without stones, 1 a day", lined("........../........../........../.........b"), 1, "1", impl.OK},
		{"the second field takes too long", lined("a.........../aaaaaaaaaaa./............/bbbbbbbbbbbb/bbbbbbbbbbbb/bbbbbbb....."), 1, "", impl.ErrLimit},
		{"the second field takes 30 days", lined("a.........../aaaaaaaaaaa./............/bbbbbbbbbbbb/bbbbbbbbbbbb/bbbbbb......"), 1, "12 30", impl.OK},
	} {
		list, code := impl.JobsFor(c.p, c.perDay)
		wantEqual(t, c.name, fmt.Sprint(writtenJobs(list), code), fmt.Sprint(c.text, c.code))
	}
}

func TestJobsFor(t *testing.T) {
	made, limited := 0, 0
	var pictures []impl.Picture
	for i, p := range append(wornSamples(), smallPictures()...) {
		pictures = append(pictures, p)
		// Few colours next to each other make few fields.
		for cell := range p.Cells {
			p.Cells[cell] = min(p.Cells[cell], uint8(1+i%3))
		}
		pictures = append(pictures, p)
	}
	for i, p := range pictures {
		for _, perDay := range []int64{1, 2, 3 + int64(i%7), 30, 144} {
			want, wantCode := jobsModel(p, perDay)
			list, code := impl.JobsFor(p, perDay)
			if code != wantCode || !slices.Equal(list, want) {
				t.Errorf("%s with %d: got %s with the code %d, want %s with the code %d", writtenLine(p), perDay, writtenJobs(list), code, writtenJobs(want), wantCode)
			}
			if code == impl.OK {
				made++
				wantEqual(t, "valid", impl.ValidJobs(list) && goodJobs(list), true)
			} else {
				limited++
			}
		}
	}
	if made < 3000 || limited < 300 {
		t.Errorf("only %d pictures have jobs, and only %d have none", made, limited)
	}
}
