package engine_test

import (
	"math"
	"slices"
	"testing"

	"oxbow/api"
	"oxbow/engine"
)

// scene is an engine that a test drives by hand.
type scene struct {
	t *testing.T
	e *engine.Engine
	s api.Spec
}

func newScene(t *testing.T, s api.Spec, l []api.Feed, c api.Config) *scene {
	t.Helper()
	return &scene{t, open(t, s, l, c), s}
}

// do does a step that must have a code and a status.
func (x *scene) do(kind, n, m int, code api.Errno, status int) api.Outcome {
	x.t.Helper()
	out := x.e.Do(api.Step{Kind: kind, N: n, M: m})
	if out.Code != code || out.Status != status {
		x.t.Fatalf("step %d, %d, %d: code %d, status %d, want %d, %d", kind, n, m, out.Code, out.Status, code, status)
	}
	return out
}

// act is an act that is done.
func (x *scene) act(status int) api.Outcome {
	x.t.Helper()
	return x.do(api.SAct, 0, 0, api.OK, status)
}

// picks has all tasks step, some rounds long.
func (x *scene) picks(rounds int) {
	x.t.Helper()
	for round := range rounds {
		for n := range x.e.Tasks() {
			if no := x.e.Do(api.Step{Kind: api.SPick, N: n, M: round}).Code; no != api.OK {
				x.t.Fatal("pick", no)
			}
		}
	}
}

func (x *scene) ticks(n, status int) {
	x.t.Helper()
	for range n {
		x.do(api.STick, 0, 0, api.OK, status)
	}
}

func (x *scene) rescale(code api.Errno, par ...int) {
	x.t.Helper()
	if got := x.e.Do(api.Step{Kind: api.SRescale, Par: par}).Code; got != code {
		x.t.Fatal("rescale to", par, got, "want", code)
	}
}

// latest checks the last published checkpoint's number, and its Par.
func (x *scene) latest(no int, par ...int) {
	x.t.Helper()
	m, some := x.e.Latest()
	if some != (no > 0) || m.No != no || no > 0 && !slices.Equal(m.Par, par) {
		x.t.Fatal("Latest", m, some, "want", no, par)
	}
}

func (x *scene) par(par ...int) {
	x.t.Helper()
	if !slices.Equal(x.e.Par(), par) {
		x.t.Fatal("Par", x.e.Par(), "want", par)
	}
}

// checkpoint has one begun, acknowledged, and prepared; the time must have come.
func (x *scene) checkpoint() {
	x.t.Helper()
	x.act(api.Running)
	x.picks(60)
	x.act(api.Running)
}

// finish goes on in fair rounds till all is committed.
func (x *scene) finish(l []api.Feed) {
	x.t.Helper()
	for range 3000 {
		if x.e.Status() == api.Finished {
			for op, o := range x.s.Ops {
				if o.Kind != api.Sink {
					continue
				}
				got, want := byKey(x.e.Output(op)), means(x.s, l, op)
				for k := range want {
					if !slices.Equal(got[k], want[k]) || len(got) != len(want) {
						x.t.Fatal("key", k, "committed", got[k], "of", want[k])
					}
				}
			}
			return
		}
		x.picks(1)
		x.e.Do(api.Step{Kind: api.SAct})
	}
	x.t.Fatal("it doesn't come to an end", x.e.Status())
}

// upToStop is a scene whose stop, of a rescale to 2, 3, 1, is published: it moves states now.
func upToStop(t *testing.T, l []api.Feed, c api.Config) *scene {
	t.Helper()
	x := newScene(t, chain(), l, c)
	x.picks(30)
	x.rescale(api.OK, 2, 3, 1)
	x.act(api.Rescaling)
	x.picks(40)
	x.act(api.Rescaling)
	x.latest(0)
	x.act(api.Rescaling)
	x.latest(1, 1, 1, 1)
	if _, _, is := x.e.State(); is || x.e.Tasks() != 0 {
		t.Fatal("there is a job while states move")
	}
	return x
}

// Examples 1 and 2, and G1: a crash behind a checkpoint.
func TestCommitOnce(t *testing.T) {
	s := chain()
	l := []api.Feed{{Op: 0, Parts: [][]api.Rec{{{Key: 7, Val: 5}, {Key: 7, Val: 6}, {Key: 7, Val: 7}}, nil, nil, nil}}}
	x := newScene(t, s, l, config(s))
	for range 3 { // two records are read, and one of them is pushed
		x.do(api.SPick, 0, 0, api.OK, api.Running)
	}
	x.do(api.SAct, 0, 0, api.ErrState, api.Running)
	x.ticks(5, api.Running)
	x.act(api.Running) // begun
	x.do(api.SAct, 0, 0, api.ErrState, api.Running)
	x.picks(20)
	x.act(api.Running) // prepared
	if len(x.e.Output(2)) != 0 {
		t.Error("committed ahead of Publish")
	}
	if out := x.act(api.Running); out.Committed != 2 || !slices.Equal(x.e.Output(2), []api.Rec{{Key: 7, Val: 5}, {Key: 7, Val: 11}}) {
		t.Error("committed", x.e.Output(2))
	}
	x.latest(1, 1, 1, 1)
	x.do(api.SCrash, 0, 0, api.OK, api.Lost)
	x.do(api.SPick, 0, 0, api.ErrState, api.Lost)
	x.act(api.Running)
	offsets, rows, _ := x.e.State()
	if !slices.Equal(offsets[0], []int{2, 0, 0, 0}) || !slices.Equal(rows[1], []api.Row{{Key: 7, Cell: api.Cell{Acc: 11, N: 2}}}) {
		t.Error("it doesn't go on from the checkpoint", offsets, rows)
	}
	x.finish(l)
}

// Example 3: a crash while a checkpoint is being written.
func TestTornCheckpoint(t *testing.T) {
	s := chain()
	l := feeds(s, 12)
	for _, keep := range []int{-1, 0, 30, math.MaxInt} {
		x := newScene(t, s, l, config(s))
		x.ticks(5, api.Running)
		x.picks(6)
		x.checkpoint()
		x.do(api.SCrash, 0, keep, api.OK, api.Lost)
		if keep == math.MaxInt {
			x.latest(1, 1, 1, 1)
		} else {
			x.latest(0)
			if len(x.e.Output(2)) != 0 {
				t.Error("a torn checkpoint committed", keep)
			}
		}
		x.act(api.Running)
		x.par(1, 1, 1)
		x.finish(l)
	}
}

// G3: a worker's crash loses what isn't prepared; what is prepared is published, though no stop any more.
func TestWorkerCrash(t *testing.T) {
	s := chain()
	l := feeds(s, 30)
	c := config(s)
	c.Workers = 5
	x := newScene(t, s, l, c)
	x.picks(20)
	for _, n := range []int{3, 4, 8, 9, -1, -2, math.MinInt + 1} { // 1 - 2^63 is 3 modulo 5
		x.do(api.SWorker, n, 0, api.OK, api.Running)
	}
	x.rescale(api.OK, 2, 2, 2)
	x.act(api.Rescaling)
	x.picks(40)
	x.act(api.Rescaling)
	x.do(api.SWorker, 7, 0, api.OK, api.Lost)
	if _, _, is := x.e.State(); is || x.e.Tasks() != 0 {
		t.Error("a job in spite of the crash")
	}
	x.do(api.SWorker, 0, 0, api.OK, api.Lost)
	x.rescale(api.ErrState, 2, 2, 2)
	x.latest(0)
	x.act(api.Lost) // published
	x.latest(1, 1, 1, 1)
	x.act(api.Running)                              // restored
	x.do(api.SAct, 0, 0, api.ErrState, api.Running) // no states move: it wasn't a stop any more
	x.par(1, 1, 1)
	x.rescale(api.OK, 2, 2, 2) // the one that was requested is forgotten
	x.do(api.SWorker, -3, 0, api.OK, api.Lost)
	x.act(api.Running)
	x.do(api.SAct, 0, 0, api.ErrState, api.Running)
	x.ticks(5, api.Running)
	x.checkpoint()
	x.act(api.Running)
	x.latest(2, 1, 1, 1) // the numbers go on
	x.finish(l)
}

// The number of a checkpoint that was lost by the coordinator's crash is used again; by a worker's, it isn't.
func TestNumbers(t *testing.T) {
	s := chain()
	l := feeds(s, 30)
	x := newScene(t, s, l, config(s))
	for _, kind := range []int{api.SWorker, api.SCrash} {
		x.ticks(5, api.Running)
		x.act(api.Running)
		x.do(kind, 0, 0, api.OK, api.Lost)
		x.act(api.Running)
		x.ticks(5, api.Running)
		x.checkpoint()
		x.act(api.Running)
		if kind == api.SWorker {
			x.latest(2, 1, 1, 1)
			continue
		}
		x.latest(3, 1, 1, 1)
	}
	x.finish(l)
}

// Example 5: a checkpoint that took too long.
func TestAbandoned(t *testing.T) {
	s := chain()
	l := feeds(s, 40)
	c := config(s)
	c.Every, c.Timeout = 3, 4
	x := newScene(t, s, l, c)
	x.ticks(3, api.Running)
	x.act(api.Running)
	for range 4 { // the sink sees the barrier, but a source doesn't tell yet
		x.do(api.SAct, 0, 0, api.ErrState, api.Running)
		x.ticks(1, api.Running)
	}
	x.act(api.Running) // given up
	x.act(api.Running) // the next one
	x.picks(40)
	x.act(api.Running)
	x.act(api.Running)
	x.latest(2, 1, 1, 1)
	x.finish(l)
}

// A stop that took too long: the sources go on, and nothing is requested any more.
func TestAbandonedStop(t *testing.T) {
	s := chain()
	l := feeds(s, 40)
	c := config(s)
	c.Every, c.Timeout = 100, 3
	for _, seen := range []bool{false, true} { // whether the source has seen the stop
		x := newScene(t, s, l, c)
		x.rescale(api.OK, 2, 2, 2)
		x.act(api.Rescaling)
		for range 3 {
			x.do(api.SAct, 0, 0, api.ErrState, api.Rescaling)
			if seen {
				x.do(api.SPick, 0, 0, api.OK, api.Rescaling)
			}
			x.ticks(1, api.Rescaling)
		}
		x.act(api.Running)
		x.do(api.SAct, 0, 0, api.ErrState, api.Running)
		before, _, _ := x.e.State()
		x.picks(10)
		after, _, _ := x.e.State()
		if slices.Equal(before[0], after[0]) {
			t.Error("the source doesn't go on", seen)
		}
		x.rescale(api.OK, 2, 2, 2)
		x.finish(l)
	}
}

// Examples 6 and 7: a rescale.
func TestRescale(t *testing.T) {
	l := feeds(chain(), 40)
	x := upToStop(t, l, config(chain()))
	x.rescale(api.ErrState, 1, 2, 1)
	x.do(api.SPick, 0, 0, api.ErrState, api.Rescaling)
	for n := range 8 {
		x.do(api.SWorker, n, 0, api.OK, api.Rescaling) // there is no job
	}
	x.act(api.Rescaling) // two moves
	x.act(api.Rescaling)
	x.latest(1, 1, 1, 1)
	x.act(api.Rescaling) // its checkpoint is prepared
	x.par(1, 1, 1)
	x.do(api.SWorker, 0, 0, api.OK, api.Rescaling)
	stop, _ := x.e.Latest()
	x.act(api.Running)
	x.latest(2, 2, 3, 1)
	x.par(2, 3, 1)
	m, _ := x.e.Latest()
	offsets, rows, is := x.e.State()
	if !is || x.e.Tasks() != 6 || !slices.Equal(offsets[0], stop.Offsets[0]) || !slices.Equal(rows[1], stop.Rows[1]) || !slices.Equal(m.Rows[1], stop.Rows[1]) || len(rows[1]) == 0 {
		t.Error("the states behind the rescale", offsets, rows, stop)
	}
	x.rescale(api.ErrState, 2, 3, 1)
	x.rescale(api.OK, 1, 1, 1)
	x.act(api.Rescaling)
	x.picks(60)
	x.act(api.Rescaling)
	x.act(api.Rescaling)
	x.latest(3, 2, 3, 1) // its number is behind that of the rescale's checkpoint
	x.finish(l)
}

// Example 8, and G3: the coordinator crashes during a rescale.
func TestCrashDuringRescale(t *testing.T) {
	l := feeds(chain(), 40)
	for moves := range 4 { // the third act prepares the checkpoint
		for _, keep := range []int{0, math.MaxInt} {
			x := upToStop(t, l, config(chain()))
			for range moves {
				x.act(api.Rescaling)
			}
			x.do(api.SCrash, 0, keep, api.OK, api.Lost)
			if moves == 3 && keep > 0 {
				x.latest(2, 2, 3, 1)
				x.par(2, 3, 1)
			} else {
				x.latest(1, 1, 1, 1)
				x.par(1, 1, 1)
			}
			x.act(api.Running)
			x.finish(l)
		}
	}
}

// P30.2: which error an SRescale has, and that it comes ahead of the others.
func TestRescaleErrors(t *testing.T) {
	s := chain()
	c := config(s)
	c.Workers, c.Slots, c.Most = 2, 3, 3
	x := newScene(t, s, feeds(s, 10), c)
	for _, par := range [][]int{nil, {1, 1}, {1, 1, 1, 1}, {0, 1, 1}, {1, -1, 1}, {1, 4, 1}, {4, 4, 4}, {math.MaxInt, 1, 1}} {
		x.rescale(api.ErrArg, par...)
	}
	x.rescale(api.ErrSlots, 3, 3, 1)
	x.rescale(api.ErrState, 1, 1, 1)
	x.rescale(api.OK, 3, 2, 1)
	x.rescale(api.ErrState, 1, 2, 1)
	x.rescale(api.ErrSlots, 3, 3, 3)
	x.rescale(api.ErrArg, 3, 3, 4)
	x.act(api.Rescaling)
	x.rescale(api.ErrState, 1, 2, 1)
	x.rescale(api.ErrArg, 0, 2, 1)
	x.rescale(api.ErrSlots, 3, 3, 3)
}

// P30.2: kinds that there aren't; and what is done once it's over.
func TestKindsAndEnd(t *testing.T) {
	s := chain()
	x := newScene(t, s, feeds(s, 0), config(s))
	for _, kind := range []int{0, -1, 8, math.MaxInt, math.MinInt} {
		x.do(kind, 1, 1, api.ErrKind, api.Running)
	}
	for _, n := range []int{2, -1, math.MaxInt, math.MinInt} {
		x.do(api.SAuto, n, 0, api.ErrArg, api.Running)
	}
	x.act(api.Running) // no record is left
	x.picks(10)
	x.act(api.Running)
	out := x.act(api.Finished)
	if out.Committed != 0 || x.e.Tasks() != 0 {
		t.Error("an empty job's end", out, x.e.Tasks())
	}
	for kind := api.SPick; kind <= api.SAuto; kind++ {
		x.do(kind, 7, 0, api.ErrState, api.Finished)
	}
	x.do(0, 0, 0, api.ErrKind, api.Finished)
	if x.e.Now() != 0 {
		t.Error("the time went on")
	}
	x.latest(1, 1, 1, 1)
}

// G6: a disk without room.
func TestFull(t *testing.T) {
	s := chain()
	l := feeds(s, 100)
	c := config(s)
	c.Disk, c.Every = 200, 1
	x := newScene(t, s, l, c)
	var before []api.Rec
	for x.e.Status() == api.Running {
		before = x.e.Output(2)
		x.ticks(1, api.Running)
		x.picks(3)
		out := x.e.Do(api.Step{Kind: api.SAct})
		if out.Status == api.Failed && (out.Code != api.ErrFull || out.Committed != len(before)) {
			t.Fatal("how it fails", out)
		}
	}
	if x.e.Status() != api.Failed || len(before) == 0 || !slices.Equal(x.e.Output(2), before) || x.e.Tasks() != 0 {
		t.Error("behind the failure", x.e.Status(), len(before))
	}
	for kind := api.SPick; kind <= api.SAuto; kind++ {
		x.do(kind, 0, math.MaxInt, api.ErrState, api.Failed)
	}
	if m, some := x.e.Latest(); !some || m.No == 0 || !slices.Equal(x.e.Output(2), before) {
		t.Error("what was published is lost", m)
	}
}

// P30.2, G5: what is decided by itself, and the errors of a tick.
func TestAuto(t *testing.T) {
	s := chain() // 30 records a tick are wanted; the source's cost is 1, the others' is 2
	s.Ops[0].Cost = 7
	l := feeds(s, 200)
	c := config(s)
	c.Auto, c.Window, c.Every, c.Cooldown = true, 3, 1000, 10
	x := newScene(t, s, l, c)
	x.ticks(2, api.Running)
	x.do(api.STick, 0, 0, api.ErrZero, api.Running) // nothing was measured
	x.picks(30)
	x.ticks(2, api.Running)
	out := x.do(api.STick, 0, 0, api.OK, api.Running)
	if !out.Decided || out.Decided && x.e.Now() != 6 {
		t.Error("no rescale was decided", out)
	}
	x.rescale(api.ErrState, 2, 2, 2) // one is requested
	x.act(api.Rescaling)
	x.picks(60)
	for x.e.Status() == api.Rescaling {
		if no := x.e.Do(api.Step{Kind: api.SAct}).Code; no != api.OK {
			t.Fatal("act", no)
		}
	}
	x.par(3, 1, 1) // 30 times 7 by 100
	decided := 0
	for x.e.Status() == api.Running && x.e.Now() < 200 { // the same proportions: nothing more is decided
		x.picks(8)
		if x.e.Do(api.Step{Kind: api.STick}).Decided {
			decided++
		}
	}
	if decided > 0 {
		t.Error("decided again", decided)
	}
	x.finish(l)
}

// P30.2: what is needed is more than there are slots.
func TestAutoSlots(t *testing.T) {
	s := chain()
	s.Ops[0].Cost = 7 // 3 tasks, and 1 each of the others
	for slots, code := range map[int]api.Errno{4: api.ErrSlots, 5: api.OK} {
		c := config(s)
		c.Auto, c.Window, c.Workers, c.Slots = true, 3, 1, slots
		x := newScene(t, s, feeds(s, 200), c)
		x.picks(30)
		x.ticks(2, api.Running)
		out := x.do(api.STick, 0, 0, code, api.Running)
		if out.Decided != (code == api.OK) {
			t.Error("decided", slots, out)
		}
		want := api.OK
		if out.Decided {
			want = api.ErrState // one is requested
		}
		x.rescale(want, 1, 2, 1)
	}
}

func TestExamples(t *testing.T) {
	s := api.Spec{Groups: 4, Ops: []api.Op{source(1, 1, 1), op(api.Map, api.Fn{Op: api.FAdd, A: 1}, 0), op(api.Sink, api.Fn{}, 1)}}
	l := []api.Feed{{Op: 0, Parts: [][]api.Rec{{{Key: 1, Val: 1}, {Key: 2, Val: 2}, {Key: 1, Val: 3}}}}}
	x := newScene(t, s, l, config(s))
	x.do(api.SAct, 0, 0, api.ErrState, api.Running)
	x.picks(20)
	x.act(api.Running)
	x.picks(9)
	x.act(api.Running)
	if out := x.act(api.Finished); out.Committed != 3 || !slices.Equal(x.e.Output(2), []api.Rec{{Key: 1, Val: 2}, {Key: 2, Val: 3}, {Key: 1, Val: 4}}) {
		t.Error(out, x.e.Output(2))
	}
	c := config(s)
	c.Workers, c.Slots = 1, 3
	x = newScene(t, s, l, c)
	x.rescale(api.ErrSlots, 1, 2, 1)
	x.do(api.SCrash, 0, 0, api.OK, api.Lost)
	x.act(api.Running)
}

// R3
func TestMemory(t *testing.T) {
	s := chain()
	l := feeds(s, 12)
	c := config(s)
	x := newScene(t, s, l, c)
	s.Ops[1].In[0] = 2
	s.Ops[1].Kind = api.Map
	l[0].Parts[0] = nil
	l[0].Parts[1][0] = api.Rec{Key: 999, Val: 999}
	c.Par[1] = 4
	x.do(api.SCrash, 0, 0, api.OK, api.Lost)
	x.par(1, 1, 1)
	x.act(api.Running)
	x.par(1, 1, 1)
	x.e.Par()[0] = 9
	x.e.Do(api.Step{Kind: api.STick}).Par[0] = 9
	par := []int{1, 2, 1}
	x.rescale(api.OK, par...)
	par[1] = 3
	x.act(api.Rescaling)
	x.picks(60)
	x.act(api.Rescaling)
	x.act(api.Rescaling)
	m, _ := x.e.Latest()
	m.Par[1], m.Offsets[0][0], m.Rows[1] = 9, 99, nil
	for x.e.Status() == api.Rescaling {
		x.e.Do(api.Step{Kind: api.SAct})
	}
	x.par(1, 2, 1)
	offsets, rows, _ := x.e.State()
	if len(rows[1]) > 0 {
		rows[1][0] = api.Row{}
	}
	offsets[0][0] = 77
	x.s = chain()
	x.finish(feeds(x.s, 12))
	x.e.Output(2)[0] = api.Rec{Key: 888}
	x.finish(feeds(x.s, 12))
}
