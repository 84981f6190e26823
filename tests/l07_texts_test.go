package tests

import (
	"fmt"
	"regexp"
	"slices"
	"strings"
	"testing"

	"loop.example/g01322/impl"
)

// jobsForm is the form of all texts of jobs but the empty one: 1 to 12 jobs with 1 to 30 days, and indices from 0 to 11.
var jobsForm = regexp.MustCompile(`\A([1-9]|[12]\d|30)(,(\d|1[01]))*( ([1-9]|[12]\d|30)(,(\d|1[01]))*){0,11}\z`)

// isJobsText tells whether a text has the form, and its jobs are valid and told in ascending order.
func isJobsText(text string) bool {
	if text == "" {
		return true
	}
	if len(text) > 1000 || !jobsForm.MatchString(text) {
		return false
	}
	list := jobs(text)
	return goodJobs(list) && writtenJobs(list) == text
}

// wantReadJobs checks what is read from a text, and tells whether it is the text of jobs.
func wantReadJobs(t *testing.T, text string) bool {
	t.Helper()
	list, code := impl.ReadJobs(text)
	if !isJobsText(text) {
		if code != impl.ErrSyntax || len(list) != 0 {
			t.Errorf("%.60q: got %v with the code %d", text, list, code)
		}
		return false
	}
	if code != impl.OK || !slices.Equal(list, jobs(text)) {
		t.Errorf("%.60q: got %v with the code %d", text, list, code)
	}
	if again := impl.JobsText(list); again != text {
		t.Errorf("%.60q: the text of its jobs is %.60q", text, again)
	}
	return true
}

func TestJobsAreReadFromTheirTexts(t *testing.T) {
	for _, c := range []struct {
		list []impl.Job
		text string
	}{
		{nil, ""}, {[]impl.Job{}, ""}, {[]impl.Job{{Days: 1}}, "1"}, {[]impl.Job{{Days: 30}}, "30"},
		{[]impl.Job{{Days: 3}, {Days: 2, After: 1}, {Days: 4}, {Days: 1, After: 6}}, "3 2,0 4 1,1,2"},
		{[]impl.Job{{Days: 10, After: 2}, {Days: 20}}, "10,1 20"},
		{slices.Repeat([]impl.Job{{Days: 30}}, 12), "30 30 30 30 30 30 30 30 30 30 30 30"},
		{append([]impl.Job{{Days: 7, After: 0xffe}}, slices.Repeat([]impl.Job{{Days: 1}}, 11)...), "7,1,2,3,4,5,6,7,8,9,10,11 1 1 1 1 1 1 1 1 1 1 1"},
		{append(slices.Repeat([]impl.Job{{Days: 1}}, 11), impl.Job{Days: 9, After: 0x7ff}), "1 1 1 1 1 1 1 1 1 1 1 9,0,1,2,3,4,5,6,7,8,9,10"},
	} {
		wantEqual(t, c.text, impl.JobsText(c.list), c.text)
		list, code := impl.ReadJobs(c.text)
		wantEqual(t, c.text, fmt.Sprint(list, code), fmt.Sprint(c.list, impl.OK))
		wantEqual(t, c.text, wantReadJobs(t, c.text), true)
	}
	for _, list := range append(sampleLists(), smallLists()...) {
		wantEqual(t, "text", impl.JobsText(list), writtenJobs(list))
		wantEqual(t, writtenJobs(list), wantReadJobs(t, writtenJobs(list)), true)
	}
}

func TestTextsOfNoJobs(t *testing.T) {
	for name, list := range invalidLists() {
		wantEqual(t, name, impl.JobsText(list), "")
		if text := writtenJobs(list); wantReadJobs(t, text) {
			t.Errorf("%s: %.60q should be the text of no jobs", name, text)
		}
	}
	for _, text := range []string{
		" ", "  ", "\n", ",", " 1", "1 ", "1  1", "1\n", "\n1", "1\n1", "1\t1", "1 \n1", "1\r", "1\x00", "\x001", "1\u00a01", "1\u20281", "\ufeff1", "1;1", "1.1",
		"1,", ",1", ",0", "1 ,0", "1 1,", "1 1, 0", "1 1 ,0", "1 1,,0", "1 1,0,", "1,0,", "1 1,0 ", " 1 1,0", "1 1,0\n", "1 1,0  1", "1 1;0",
		// Numbers that are written in other ways.
		"01", "001", "1 01,0", "1 1,00", "1 1,000", "+1", "1 +1", "1 1,+0", "1 1,-0", "-1", "1 -1", "1 1,-1", "-0", "0x1", "1 0x1,0", "1 1,0x0", "1e0", "1.0", "1_0", "1 1,0_0", "１", "１ 1", "1 1,０", "٣", "x", "1 x", "1 1,x", "--1", "1 1,--0",
		"0", "00", "1 0", "31", "1 31", "32", "99", "127", "128", "255", "256", "257", "1 257,0", "65537", "4294967297", "18446744073709551617", "-255", "-18446744073709551615", "99999999999999999999999999",
		// Jobs that wait for themselves, for each other, or for none of the list, or are told twice, or in another order.
		"1,0", "1 1,1", "1,1 1,0", "1,1", "1 1,2", "1 1,12", "1 1,15", "1 1,16", "1 1,64", "1 1,256", "1 1,-256", "1 1,4294967296", "1 1,18446744073709551616", "1 1,0,0", "1 1 1,1,0", "1 1 1,0,1,0", "1 1 1,0,1,1", "1,2 1,0 1,1",
		"1 1 1 1 1 1 1 1 1 1 1 1 1", "1 1 1 1 1 1 1 1 1 1 1 1,12", "1 1 1 1 1 1 1 1 1 1 1 1 ", " 1 1 1 1 1 1 1 1 1 1 1 1", "1 1 1 1 1 1 1 1 1 1 1 1 x", "1 1 1 1 1 1 1 1 1 1 1 1,0,1,2,3,4,5,6,7,8,9,10,11",
		strings.Repeat("1 ", 500000), strings.Repeat(" ", 1000000), strings.Repeat("1", 1000000), strings.Repeat("0", 999999) + "1", strings.Repeat(",", 1000000), "1 1" + strings.Repeat(",0", 499998), "1 1," + strings.Repeat("0", 999000), strings.Repeat("1 1,0", 200000),
	} {
		if wantReadJobs(t, text) {
			t.Errorf("%.60q should be the text of no jobs", text)
		}
	}
	for _, text := range []string{"", "1", "30", "1 1,0", "1 1 1,0,1", "29,1 30"} {
		wantEqual(t, text, wantReadJobs(t, text), true)
	}
}

// TestEveryByteOfJobsCounts puts each byte at each place of a text, ahead of it, or leaves one away.
func TestEveryByteOfJobsCounts(t *testing.T) {
	text := "3 20,0,2 4 1,1,2 10,11 7 30,9,10 6 8 9 12,9 5"
	wantEqual(t, text, wantReadJobs(t, text), true)
	good := 0
	for changed := range changedTexts(text) {
		if wantReadJobs(t, changed) {
			good++
		}
	}
	if good < 200 {
		t.Errorf("only %d texts of jobs", good)
	}
}

// TestAllShortTextsOfJobs reads all texts of at most 6 letters of a few.
func TestAllShortTextsOfJobs(t *testing.T) {
	all := []string{""}
	good := 0
	for first := 0; first < len(all); first++ {
		if wantReadJobs(t, all[first]) {
			good++
		}
		for _, letter := range []string{"0", "1", "2", "3", ",", " ", "-"} {
			if len(all[first]) < 6 {
				all = append(all, all[first]+letter)
			}
		}
	}
	if good < 300 {
		t.Errorf("only %d texts of jobs", good)
	}
}
