package engine

import (
	"oxbow/api"
	"oxbow/deploy"
	"oxbow/rescale"
)

// act lets the coordinator do the first thing that there is to do.
func (e *Engine) act() error {
	_, stop, since, running := e.coord.Running()
	switch {
	case e.store.Pending():
		e.publish()
	case e.status == api.Lost:
		e.restore()
	case e.moving != nil:
		return e.move()
	case e.coord.Ready():
		return e.conclude(stop)
	case running && e.now-since >= e.config.Timeout:
		e.abandon(stop)
	case running:
		return fail(api.ErrState)
	case e.wanted != nil:
		e.begin(true)
		e.status = api.Rescaling
	case e.due():
		e.begin(false)
	default:
		return fail(api.ErrState)
	}
	return nil
}

// publish publishes the prepared checkpoint; what comes behind it hangs on what it was.
func (e *Engine) publish() {
	e.store.Publish()
	e.recount()
	m := e.published()
	e.par = m.Par
	if e.job != nil {
		e.job.Commit(m.No)
	}
	if no, _, _, running := e.coord.Running(); running && no == m.No {
		e.coord.Drop()
	}
	was := e.prepared
	e.prepared = goesOn
	switch {
	case e.complete(m):
		e.job, e.wanted, e.moving = nil, nil, nil
		e.status = api.Finished
	case was == stops:
		e.moving = rescale.New(e.spec, m, e.wanted)
		e.job, e.wanted = nil, nil
	case was == moved:
		e.moving = nil
		e.resume(m)
	}
}

// restore goes on from the last published checkpoint, or begins.
func (e *Engine) restore() {
	m := e.published()
	e.par = m.Par
	e.resume(m)
}

// resume has the job of a checkpoint run.
func (e *Engine) resume(m api.Manifest) {
	e.job = deploy.New(e.spec, e.feeds, e.config.Link, m)
	e.status = api.Running
}

// move does the next move of a rescale, or prepares its checkpoint.
func (e *Engine) move() error {
	if e.moving.Step() {
		return nil
	}
	m, _ := e.moving.Manifest()
	err := e.prepare(m, moved)
	if err == nil {
		e.last = m.No
	}
	return err
}

// conclude prepares the checkpoint that all tasks have told of.
func (e *Engine) conclude(stop bool) error {
	m, _ := e.coord.Manifest(e.spec, e.par)
	if stop {
		return e.prepare(m, stops)
	}
	return e.prepare(m, goesOn)
}

// prepare writes a checkpoint, with what it is; where there is no room, that is the end.
func (e *Engine) prepare(m api.Manifest, what int) error {
	no := e.store.Prepare(m)
	if no == api.ErrFull {
		e.clear()
		e.status = api.Failed
	}
	if no == api.OK {
		e.prepared = what
	}
	return fail(no)
}

// abandon gives a checkpoint up that took too long.
func (e *Engine) abandon(stop bool) {
	e.coord.Drop()
	if stop {
		e.job.Resume()
		e.wanted = nil
		e.status = api.Running
	}
}

// begin begins a checkpoint.
func (e *Engine) begin(stop bool) {
	e.last++
	e.began = e.now
	e.coord.Start(e.last, e.job.Tasks(), stop, e.now)
	e.job.Trigger(e.last, stop)
}

// due tells whether it is time for a checkpoint.
func (e *Engine) due() bool {
	return e.now-e.began >= e.config.Every || e.job.Left() == 0
}

// complete tells whether a checkpoint's offsets are at the ends of all partitions.
func (e *Engine) complete(m api.Manifest) bool {
	for _, f := range e.feeds {
		for p, part := range f.Parts {
			if m.Offsets[f.Op][p] < len(part) {
				return false
			}
		}
	}
	return true
}
