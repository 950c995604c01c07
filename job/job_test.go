package job_test

import (
	"math"
	"math/rand"
	"slices"
	"testing"

	"headrace/api"
	"headrace/job"
)

func of(state, falls, most int) api.Job { return api.Job{State: state, Falls: falls, Most: most} }

var (
	none  = api.Job{}
	wrong = []api.Job{of(-1, 0, 1), of(8, 0, 1), of(1, -1, 1), of(1, 2, 1), of(1, 0, -1), of(1, 0, 9), of(0, 1, 1), of(math.MaxInt, 0, 1), of(1, math.MinInt, math.MaxInt)}
)

// P25.1: Check, New; of what may not be.
func TestCheck(t *testing.T) {
	for _, j := range []api.Job{none, of(0, 0, 8), of(7, 8, 8), of(1, 0, 0), of(2, 3, 4)} {
		if err := job.Check(j); err != api.OK {
			t.Errorf("Check(%v): %d", j, err)
		}
	}
	for _, j := range wrong {
		x, err := job.Do(j, 99)
		if job.Check(j) != api.ErrJob || err != api.ErrJob || x != none || job.Lives(j) || job.Over(j) || len(job.May(j)) > 0 || job.Left(j) != 0 || len(job.Reach(j)) > 0 {
			t.Errorf("of %v: %d", j, err)
		}
	}
	for _, most := range []int{0, 8} {
		if j, err := job.New(most); err != api.OK || j != of(0, 0, most) {
			t.Errorf("New(%d): %v %d", most, j, err)
		}
	}
	for _, most := range []int{-1, 9, math.MaxInt, math.MinInt} {
		if j, err := job.New(most); err != api.ErrArg || j != none {
			t.Errorf("New(%d): %d", most, err)
		}
	}
}

// table is what comes of each happening in each state: a state, or an error, or -1 of a job that is begun anew.
var table = [][]int{
	{1, 105, 105, 105, 105, 105, 105, 105},
	{104, 6, 6, 6, 451, 451, 451, 451},
	{104, -1, -1, -1, 451, 451, 451, 451},
	{104, 452, 1, 452, 451, 451, 451, 451},
	{104, 3, 453, 105, 451, 451, 451, 451},
	{104, 452, 452, 5, 451, 451, 451, 451},
	{104, 452, 452, 1, 451, 451, 451, 451},
	{104, 4, 452, 4, 451, 451, 451, 451},
	{104, 7, 7, 7, 451, 451, 451, 451},
}

// P25.2, P25.3: Do, May, Lives, Over, Left, of all jobs.
func TestTable(t *testing.T) {
	for state := range 8 {
		for most := 0; most <= api.MaxFalls; most++ {
			for falls := 0; falls <= most; falls++ {
				j := of(state, falls, most)
				if job.Check(j) != api.OK {
					continue
				}
				var may []int
				for i, row := range table {
					want, err := j, api.OK
					switch c := row[state]; {
					case c >= 100:
						want, err = none, api.Errno(c-100)
					case c >= 0:
						want.State = c
					case falls == most:
						want.State = api.JobFailed
					default:
						want = of(api.JobRestarting, falls+1, most)
					}
					if err == api.OK {
						may = append(may, i+1)
					}
					if got, gerr := job.Do(j, i+1); got != want || gerr != err {
						t.Errorf("Do(%v, %d): %v %d", j, i+1, got, gerr)
					}
				}
				left := most - falls
				if state > 3 {
					left = 0
				}
				if !slices.Equal(job.May(j), may) || job.Lives(j) != (state >= 1 && state <= 3) || job.Over(j) != (state > 3) || job.Left(j) != left {
					t.Errorf("%v: %v %v %v %d", j, job.May(j), job.Lives(j), job.Over(j), job.Left(j))
				}
				for _, h := range []int{0, 10, -1, math.MaxInt, math.MinInt} {
					if got, err := job.Do(j, h); got != none || err != api.ErrArg {
						t.Errorf("Do(%v, %d): %d", j, h, err)
					}
				}
			}
		}
	}
}

// The chapter's examples.
func TestExamples(t *testing.T) {
	play := func(most int, l ...int) (api.Job, api.Errno) {
		j, _ := job.New(most)
		var err api.Errno
		for _, h := range l {
			var next api.Job
			if next, err = job.Do(j, h); err == api.OK {
				j = next
			}
		}
		return j, err
	}
	for i, x := range []struct {
		l     []int
		state int
		err   api.Errno
	}{
		{[]int{api.JobUp}, api.JobNone, api.ErrNone}, {[]int{api.JobSubmit}, api.JobRunning, api.OK}, {[]int{api.JobSubmit, api.JobFall}, api.JobRestarting, api.OK}, {[]int{api.JobSubmit, api.JobFall, api.JobFall}, api.JobFailed, api.OK},
		{[]int{api.JobSubmit, api.JobStop, api.JobFall, api.JobStop}, api.JobRestarting, api.ErrBusy}, {[]int{api.JobSubmit, api.JobStop, api.JobSaved, api.JobCancel}, api.JobStopped, api.ErrJobOver},
	} {
		if j, err := play(1, x.l...); j.State != x.state || err != x.err {
			t.Errorf("%d: %v %d", i, j, err)
		}
	}
	if got := job.Reach(of(api.JobFinished, 0, 1)); !slices.Equal(got, []int{api.JobFinished}) {
		t.Errorf("Reach: %v", got)
	}
	if got := job.May(none); !slices.Equal(got, []int{api.JobSubmit}) {
		t.Errorf("May: %v", got)
	}
}

// P25.4: Name, Reach.
func TestName(t *testing.T) {
	for state, want := range []string{"none", "running", "restarting", "stopping", "finished", "stopped", "cancelled", "failed"} {
		if got, ok := job.Name(state); got != want || !ok {
			t.Errorf("Name(%d): %s", state, got)
		}
	}
	for _, state := range []int{-1, 8, math.MaxInt, math.MinInt} {
		if got, ok := job.Name(state); got != "" || ok {
			t.Errorf("Name(%d): %s", state, got)
		}
	}
	for _, x := range []struct {
		j    api.Job
		want []int
	}{
		{none, []int{0, 1, 3, 4, 5, 6, 7}}, {of(0, 0, 1), []int{0, 1, 2, 3, 4, 5, 6, 7}}, {of(1, 1, 1), []int{1, 3, 4, 5, 6, 7}}, {of(2, 1, 1), []int{1, 2, 3, 4, 5, 6, 7}}, {of(3, 0, 8), []int{1, 2, 3, 4, 5, 6, 7}}, {of(6, 0, 8), []int{6}}, {of(7, 8, 8), []int{7}},
	} {
		if got := job.Reach(x.j); !slices.Equal(got, x.want) {
			t.Errorf("Reach(%v): %v", x.j, got)
		}
	}
}

// P25.5: what follows.
func TestFollows(t *testing.T) {
	rnd := rand.New(rand.NewSource(25))
	for range 500 {
		j, _ := job.New(rnd.Intn(9))
		reach := job.Reach(j)
		anew := 0
		for range 60 {
			if job.Lives(j) {
				if c, err := job.Do(j, api.JobCancel); err != api.OK || c.State != api.JobCancelled {
					t.Fatalf("%v can't be cancelled: %d", j, err)
				}
			}
			next, err := job.Do(j, 1+rnd.Intn(9))
			if err != api.OK {
				continue
			}
			if job.Over(j) || job.Check(next) != api.OK || !slices.Contains(reach, next.State) || !slices.Contains(job.Reach(j), next.State) {
				t.Fatalf("%v behind %v", next, j)
			}
			if next.State == api.JobRestarting {
				anew++
			}
			if j = next; anew != j.Falls || anew > j.Most {
				t.Fatalf("%v was begun anew %d times", j, anew)
			}
		}
	}
}
