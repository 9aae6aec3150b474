package engine

import (
	"errors"
	"slices"
	"strconv"

	"oxbow/api"
	"oxbow/place"
	"oxbow/solve"
	"oxbow/store"
)

// failure is why a step wasn't done as it was asked for, by the error's number.
type failure struct{ no api.Errno }

func (f *failure) Error() string { return "the step failed, error " + strconv.Itoa(int(f.no)) }

// fail is the failure of a number; OK is none.
func fail(no api.Errno) error {
	if no == api.OK {
		return nil
	}
	return &failure{no}
}

// code is the number that an error wraps.
func code(err error) api.Errno {
	var f *failure
	if errors.As(err, &f) {
		return f.no
	}
	return api.OK
}

// Do does a step of a script.
func (e *Engine) Do(x api.Step) api.Outcome {
	decided, err := e.step(x)
	return api.Outcome{Code: code(err), Status: e.status, Par: e.Par(), Committed: e.committed, Decided: decided}
}

// step does what a step asks for; whether a rescale was decided.
func (e *Engine) step(x api.Step) (bool, error) {
	if x.Kind < api.SPick || x.Kind > api.SAuto {
		return false, fail(api.ErrKind)
	}
	if e.status == api.Finished || e.status == api.Failed {
		return false, fail(api.ErrState)
	}
	hit := false
	switch x.Kind {
	case api.SPick:
		return false, e.pick(x.N, x.M)
	case api.STick:
		return e.tick()
	case api.SAct:
		return false, e.act()
	case api.SRescale:
		return false, e.request(x.Par)
	case api.SAuto:
		return false, e.automate(x.N)
	case api.SCrash:
		e.reopen(x.M)
		hit = true
		fallthrough
	case api.SWorker:
		if hit || e.works(x.N) {
			e.lose()
		}
	}
	return false, nil
}

// pick lets a task do a step.
func (e *Engine) pick(n, from int) error {
	if e.job == nil {
		return fail(api.ErrState)
	}
	op, did := e.job.Step(n, from)
	e.meter.Add(op, did)
	if did.Acked {
		e.coord.Ack(did.Ack)
	}
	return nil
}

// tick lets the time go on; whether a rescale was decided.
func (e *Engine) tick() (bool, error) {
	e.now++
	if !e.auto || e.now-e.since < e.config.Window {
		return false, nil
	}
	target, no := solve.Solve(e.spec, e.meter.Read(), e.par, e.config.Most)
	if no == api.OK && total(target) > e.slots() {
		no = api.ErrSlots
	}
	e.measure()
	idle := e.status == api.Running && e.wanted == nil
	decided := e.policy.Decide(e.now, e.par, target, no, idle)
	if decided {
		e.wanted = target
	}
	return decided, fail(no)
}

// request asks for a parallelism.
func (e *Engine) request(par []int) error {
	switch {
	case !admissible(e.spec, e.config.Most, par):
		return fail(api.ErrArg)
	case total(par) > e.slots():
		return fail(api.ErrSlots)
	case e.status != api.Running || e.wanted != nil || slices.Equal(par, e.par):
		return fail(api.ErrState)
	}
	e.wanted = slices.Clone(par)
	return nil
}

// automate has rescales decided by themselves (1), or not (0).
func (e *Engine) automate(n int) error {
	switch n {
	case 0:
		e.auto = false
	case 1:
		e.auto = true
		e.measure()
	default:
		return fail(api.ErrArg)
	}
	return nil
}

// works tells whether a task is at a worker.
func (e *Engine) works(n int) bool {
	if e.job == nil {
		return false
	}
	count := e.config.Workers
	workers, _ := place.Place(e.job.Tasks(), count, e.config.Slots)
	return slices.Contains(workers, (n%count+count)%count)
}

// reopen is the coordinator, come back: it knows what the disk has, of which so many bytes that were not synced stayed.
func (e *Engine) reopen(keep int) {
	e.disk.Crash(keep)
	e.store = store.Open(e.disk)
	e.recount()
	m := e.published()
	e.par, e.last = m.Par, m.No
	e.measure()
}

// lose loses everything that isn't on the disk.
func (e *Engine) lose() {
	e.clear()
	e.prepared = goesOn
	e.status = api.Lost
}

// clear leaves no job, and nothing that is in progress.
func (e *Engine) clear() {
	e.job, e.wanted, e.moving = nil, nil, nil
	e.coord.Drop()
}

// measure begins measuring anew.
func (e *Engine) measure() {
	e.meter.Reset()
	e.since = e.now
}

// slots is how many tasks there is room for.
func (e *Engine) slots() int { return e.config.Workers * e.config.Slots }

// published is the last checkpoint that was published; if none was, that with which the job began.
func (e *Engine) published() api.Manifest {
	m, some := e.store.Latest()
	if !some {
		m.Par = slices.Clone(e.config.Par)
	}
	return m
}

// recount counts the records that are committed.
func (e *Engine) recount() {
	e.committed = 0
	for op := range e.spec.Ops {
		e.committed += len(e.store.Output(op))
	}
}
