package engine_test

import (
	"slices"

	"oxbow/api"
	"oxbow/coord"
	"oxbow/deploy"
	"oxbow/disk"
	"oxbow/meter"
	"oxbow/place"
	"oxbow/policy"
	"oxbow/rescale"
	"oxbow/solve"
	"oxbow/store"
)

// model is an engine as the chapter tells it, sentence by sentence; acts counts which of its cases an act was.
type model struct {
	s      api.Spec
	feeds  []api.Feed
	c      api.Config
	disk   *disk.Disk
	store  *store.Store
	status int
	now    int
	par    []int
	job    *deploy.Job

	running   bool // a checkpoint is in progress
	coord     *coord.Coord
	no, start int
	stop      bool

	requested        []int
	rescale          *rescale.Run
	isStop, isMoved  bool // what the prepared checkpoint is
	meter            *meter.Meter
	since            int
	policy           *policy.Policy
	auto             bool
	began, last      int
	acts             [10]int
	lost, torn, kept int
}

func newModel(s api.Spec, feeds []api.Feed, c api.Config) *model {
	m := &model{s: s, feeds: feeds, c: c, status: api.Running, par: c.Par, auto: c.Auto}
	m.disk, _ = disk.New(c.Disk)
	m.store = store.Open(m.disk)
	m.job = deploy.New(s, feeds, c.Link, api.Manifest{Par: c.Par})
	m.meter = meter.New(len(s.Ops))
	m.policy = policy.New(c.Cooldown, c.Slack)
	return m
}

func sum(l []int) int {
	n := 0
	for _, x := range l {
		n += x
	}
	return n
}

func (m *model) admissible(par []int) bool {
	for i, n := range par {
		if i >= len(m.s.Ops) || n < 1 || n > m.c.Most || n > m.s.Groups || m.s.Ops[i].Kind == api.Source && n > m.s.Ops[i].Parts {
			return false
		}
	}
	return len(par) == len(m.s.Ops)
}

func (m *model) forget() {
	m.job, m.running, m.requested, m.rescale = nil, false, nil, nil
}

func (m *model) loseEverything() {
	m.forget()
	m.isStop, m.isMoved = false, false
	m.status = api.Lost
	m.lost++
}

func (m *model) measureAnew() {
	m.meter.Reset()
	m.since = m.now
}

func (m *model) do(x api.Step) api.Outcome {
	var out api.Outcome
	if x.Kind < 1 || x.Kind > 7 {
		out.Code = api.ErrKind
	} else if m.status == api.Finished || m.status == api.Failed {
		out.Code = api.ErrState
	} else {
		out.Code = m.step(x, &out.Decided)
	}
	out.Status, out.Par = m.status, m.par
	for op := range m.s.Ops {
		out.Committed += len(m.store.Output(op))
	}
	return out
}

func (m *model) step(x api.Step, decided *bool) api.Errno {
	slots := m.c.Workers * m.c.Slots
	switch x.Kind {
	case api.SPick:
		if m.job == nil {
			return api.ErrState
		}
		op, d := m.job.Step(x.N, x.M)
		m.meter.Add(op, d)
		if d.Acked && m.running {
			m.coord.Ack(d.Ack)
		}
	case api.STick:
		m.now++
		if !m.auto || m.now-m.since < m.c.Window {
			return api.OK
		}
		target, no := solve.Solve(m.s, m.meter.Read(), m.par, m.c.Most)
		if no == api.OK && sum(target) > slots {
			no = api.ErrSlots
		}
		m.measureAnew()
		if m.policy.Decide(m.now, m.par, target, no, m.status == api.Running && m.requested == nil) {
			m.requested, *decided = target, true
		}
		return no
	case api.SWorker:
		if m.job == nil {
			return api.OK
		}
		workers, _ := place.Place(m.job.Tasks(), m.c.Workers, m.c.Slots)
		if slices.Contains(workers, ((x.N%m.c.Workers)+m.c.Workers)%m.c.Workers) {
			m.loseEverything()
		} else {
			m.kept++
		}
	case api.SCrash:
		m.crash(x.M)
	case api.SRescale:
		if !m.admissible(x.Par) {
			return api.ErrArg
		}
		if sum(x.Par) > slots {
			return api.ErrSlots
		}
		if m.status != api.Running || m.requested != nil || slices.Equal(x.Par, m.par) {
			return api.ErrState
		}
		m.requested = slices.Clone(x.Par)
	case api.SAuto:
		if x.N != 0 && x.N != 1 {
			return api.ErrArg
		}
		m.auto = x.N == 1
		if m.auto {
			m.measureAnew()
		}
	case api.SAct:
		which, no := m.act()
		m.acts[which]++
		return no
	}
	return api.OK
}

func (m *model) crash(keep int) {
	pending := m.store.Pending()
	before, _ := m.store.Latest()
	m.disk.Crash(keep)
	m.store = store.Open(m.disk)
	m.loseEverything()
	last, some := m.store.Latest()
	if pending && last.No == before.No {
		m.torn++
	}
	m.par, m.last = last.Par, last.No
	if !some {
		m.par, m.last = m.c.Par, 0
	}
	m.measureAnew()
}

// act is which of the chapter's cases applies, and its error.
func (m *model) act() (int, api.Errno) {
	switch {
	case m.store.Pending():
		m.published()
		return 1, api.OK
	case m.status == api.Lost:
		last, some := m.store.Latest()
		if !some {
			last = api.Manifest{Par: m.c.Par}
		}
		m.job = deploy.New(m.s, m.feeds, m.c.Link, last)
		m.par, m.status = last.Par, api.Running
		return 2, api.OK
	case m.rescale != nil:
		if m.rescale.Step() {
			return 3, api.OK
		}
		x, _ := m.rescale.Manifest()
		m.last = x.No
		return 3, m.prepare(x, false, true)
	case m.running && m.coord.Ready():
		x, _ := m.coord.Manifest(m.s, m.par)
		return 4, m.prepare(x, m.stop, false)
	case m.running && m.now >= m.start+m.c.Timeout:
		m.running = false
		if m.stop {
			m.job.Resume()
			m.requested, m.status = nil, api.Running
		}
		return 5, api.OK
	case m.running:
		return 6, api.ErrState
	case m.requested != nil:
		m.begin(true)
		m.status = api.Rescaling
		return 7, api.OK
	case m.now >= m.began+m.c.Every || m.job.Left() == 0:
		m.begin(false)
		return 8, api.OK
	}
	return 9, api.ErrState
}

func (m *model) begin(stop bool) {
	m.last++
	m.began, m.start, m.no, m.stop, m.running = m.now, m.now, m.last, stop, true
	m.coord = coord.New()
	m.coord.Start(m.no, m.job.Tasks(), stop, m.now)
	m.job.Trigger(m.no, stop)
}

func (m *model) prepare(x api.Manifest, stop, moved bool) api.Errno {
	if no := m.store.Prepare(x); no != api.OK {
		m.forget()
		m.status = api.Failed
		return no
	}
	m.isStop, m.isMoved = stop, moved
	return api.OK
}

func (m *model) published() {
	m.store.Publish()
	x, _ := m.store.Latest()
	m.par = x.Par
	if m.job != nil {
		m.job.Commit(x.No)
	}
	if m.running && m.no == x.No {
		m.running = false
	}
	ends := true
	for _, f := range m.feeds {
		for p, l := range f.Parts {
			ends = ends && x.Offsets[f.Op][p] == len(l)
		}
	}
	switch {
	case ends:
		m.status, m.job, m.rescale, m.requested = api.Finished, nil, nil, nil
	case m.isStop:
		m.rescale = rescale.New(m.s, x, m.requested)
		m.requested, m.job = nil, nil
	case m.isMoved:
		m.rescale = nil
		m.job = deploy.New(m.s, m.feeds, m.c.Link, x)
		m.status = api.Running
	}
	m.isStop, m.isMoved = false, false
}
