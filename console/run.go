package console

import (
	"strings"

	"oxbow/api"
	"oxbow/engine"
	"oxbow/spec"
)

// script is a job, its input, how it is run, and the do and fair lines.
type script struct {
	spec       api.Spec
	feeds      []api.Feed
	feedOf     map[int]int // where a source's feed is
	config     api.Config
	configured bool
	steps      []Line
	count      int // of do lines, and of fair rounds
}

// Run is what comes of a text.
func Run(text string) (string, api.Errno) {
	if len(text) > api.MaxText {
		return "", api.ErrLong
	}
	s, fits := parse(text)
	if !fits {
		return "", api.ErrWord
	}
	e, no := engine.New(s.spec, s.feeds, s.config)
	if no != api.OK {
		return "", no
	}
	lines := append(s.run(e), s.report(e)...)
	return strings.Join(lines, "\n") + "\n", api.OK
}

// parse is the script that a text is.
func parse(text string) (*script, bool) {
	body, ended := strings.CutSuffix(text, "\n")
	if !ended {
		return nil, false
	}
	s := &script{feedOf: map[int]int{}}
	for i, line := range strings.Split(body, "\n") {
		l, no := Read(line)
		if no != api.OK || (l.Kind == Job) != (i == 0) || !s.add(l) {
			return nil, false
		}
	}
	return s, s.configured
}

// add takes a line; false: it can't come here.
func (s *script) add(l Line) bool {
	began := len(s.steps) > 0
	switch l.Kind {
	case Job:
		s.spec.Groups = l.Groups
	case Oper:
		s.spec.Ops = append(s.spec.Ops, l.Op)
		return !began
	case Part:
		s.addPart(l.No, l.Recs)
		return !began
	case Config:
		again := s.configured
		s.config, s.configured = l.Config, true
		return !began && !again
	case Do:
		l.Count = 1
		fallthrough
	case Fair:
		if l.Count < 0 || l.Count > api.MaxSteps-s.count {
			return false
		}
		s.count += l.Count
		s.steps = append(s.steps, l)
	}
	return true
}

// addPart gives a source its next partition.
func (s *script) addPart(op int, recs []api.Rec) {
	i, is := s.feedOf[op]
	if !is {
		i = len(s.feeds)
		s.feedOf[op] = i
		s.feeds = append(s.feeds, api.Feed{Op: op})
	}
	s.feeds[i].Parts = append(s.feeds[i].Parts, recs)
}

// run does all steps and rounds; a line for each step of a do line.
func (s *script) run(e *engine.Engine) []string {
	var lines []string
	for _, l := range s.steps {
		if l.Kind == Fair {
			fair(e, l.Count)
			continue
		}
		out := e.Do(l.Step)
		decided := 0
		if out.Decided {
			decided = 1
		}
		numbers := []int{int(out.Code), out.Status, out.Committed, decided}
		lines = append(lines, join("step", append(numbers, out.Par...)...))
	}
	return lines
}

// fair does some rounds: each task a step, and then an act.
func fair(e *engine.Engine, rounds int) {
	for round := range rounds {
		for n := range e.Tasks() {
			e.Do(api.Step{Kind: api.SPick, N: n, M: round})
		}
		e.Do(api.Step{Kind: api.SAct})
	}
}

// report is how it stands at the end, and what the sinks have committed.
func (s *script) report(e *engine.Engine) []string {
	lines := []string{join("status", e.Status(), e.Now()), join("par", e.Par()...)}
	for _, op := range spec.Sinks(s.spec) {
		lines = append(lines, join("out", append([]int{op}, pairs(e.Output(op))...)...))
	}
	return lines
}
