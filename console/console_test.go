package console_test

import (
	"math"
	"math/rand"
	"reflect"
	"slices"
	"strconv"
	"strings"
	"testing"

	"oxbow/api"
	"oxbow/console"
	"oxbow/engine"
)

func reads(t *testing.T, s string, want console.Line) {
	t.Helper()
	got, no := console.Read(s)
	if no != api.OK || !reflect.DeepEqual(got, want) {
		t.Errorf("Read(%q) = %+v, %d, want %+v", s, got, no, want)
	}
	back, no := console.Write(want)
	if no != api.OK || back != s {
		t.Errorf("Write(%+v) = %q, %d, want %q", want, back, no, s)
	}
}

// P31.1, P31.2
func TestLines(t *testing.T) {
	reads(t, "job 4", console.Line{Kind: console.Job, Groups: 4})
	reads(t, "job -9223372036854775808", console.Line{Kind: console.Job, Groups: math.MinInt})
	reads(t, "job 9223372036854775807", console.Line{Kind: console.Job, Groups: math.MaxInt})
	reads(t, "op 2 1 5 0 0 0 3 0", console.Line{Kind: console.Oper, Op: api.Op{Kind: api.Map, In: []int{0}, Fn: api.Fn{Op: api.FAdd, A: 5}, Cost: 3}})
	reads(t, "op 1 2 3 4 5 6 7", console.Line{Kind: console.Oper, Op: api.Op{Kind: 1, Fn: api.Fn{Op: 2, A: 3, B: 4}, Parts: 5, Rate: 6, Cost: 7}})
	reads(t, "op -1 -2 -3 -4 -5 -6 -7 -8 9 -10", console.Line{Kind: console.Oper, Op: api.Op{Kind: -1, In: []int{-8, 9, -10}, Fn: api.Fn{Op: -2, A: -3, B: -4}, Parts: -5, Rate: -6, Cost: -7}})
	reads(t, "part 0 1 7 2 -8", console.Line{Kind: console.Part, Recs: []api.Rec{{Key: 1, Val: 7}, {Key: 2, Val: -8}}})
	reads(t, "part 3", console.Line{Kind: console.Part, No: 3})
	reads(t, "config 1 2 3 4 5 6 7 8 9 10 1", console.Line{Kind: console.Config, Config: api.Config{Workers: 1, Slots: 2, Link: 3, Disk: 4, Every: 5, Timeout: 6, Window: 7, Cooldown: 8, Slack: 9, Most: 10, Auto: true}})
	reads(t, "config 0 0 0 0 0 0 0 0 0 0 0 5 6", console.Line{Kind: console.Config, Config: api.Config{Par: []int{5, 6}}})
	reads(t, "do 1 2 3", console.Line{Kind: console.Do, Step: api.Step{Kind: 1, N: 2, M: 3}})
	reads(t, "do 6 0 0 1 2 1", console.Line{Kind: console.Do, Step: api.Step{Kind: 6, Par: []int{1, 2, 1}}})
	reads(t, "fair 0", console.Line{Kind: console.Fair})
	reads(t, "fair -5", console.Line{Kind: console.Fair, Count: -5})
}

// P31.1
func TestNoLines(t *testing.T) {
	for _, s := range []string{
		"", " ", "job", "job ", " job 4", "job 4 ", "job  4", "job 4 5", "job 04", "job +4", "job -0", "job 4.0", "job 0x4", "job 1_000", "job four", "Job 4", "JOB 4", "jobs 4", "job 4\n", "job\t4", "job 4\r", "job 9223372036854775808", "job -9223372036854775809", "job -", "job 4\n5", "\njob 4", "job ４",
		"op", "op 1 2 3 4 5 6", "op 1 2 3 4 5 6 7 x", "op 1 2 3 4 5 6 7 ", "op 1 2 3 4 5 6 07",
		"part", "part 0 1", "part 0 1 2 3", "part 01", "part 0 1 02", "part 0 1  2", "part x",
		"config 1 2 3 4 5 6 7 8 9 10", "config 1 2 3 4 5 6 7 8 9 10 2", "config 1 2 3 4 5 6 7 8 9 10 -1", "config 1 2 3 4 5 6 7 8 9 10 00", "config 1 2 3 4 5 6 7 8 9 10 true", "config 1 2 3 4 5 6 7 8 9 10 1 x", "config",
		"do", "do 1", "do 1 2", "do 1 2 x", "do 1 2 3 x", "do 1 2 3 ", "do 1 2 3 04",
		"fair", "fair 01", "fair 1 2", "fair x", "4", "step 1 2 3", "status 1 2", "0 4", "job 4 job 4",
	} {
		if got, no := console.Read(s); no != api.ErrWord || !reflect.DeepEqual(got, console.Line{}) {
			t.Errorf("Read(%q) = %+v, %d", s, got, no)
		}
	}
}

// full is a line that has all fields.
func full(kind int) console.Line {
	return console.Line{Kind: kind, Groups: 1, Op: api.Op{Kind: 1, In: []int{0}, Fn: api.Fn{Op: 1, A: 1, B: 1}, Parts: 1, Rate: 1, Cost: 1}, No: 1, Recs: []api.Rec{{}}, Config: api.Config{Workers: 1, Slots: 1, Link: 1, Disk: 1, Every: 1, Timeout: 1, Window: 1, Cooldown: 1, Slack: 1, Most: 1, Auto: true, Par: []int{0}}, Step: api.Step{Kind: 1, N: 1, M: 1, Par: []int{0}}, Count: 1}
}

// P31.2: which fields a kind of line has no words for.
func TestWriteErrors(t *testing.T) {
	for _, kind := range []int{0, 7, -1, math.MaxInt, math.MinInt} {
		for _, l := range []console.Line{{Kind: kind}, full(kind)} {
			if s, no := console.Write(l); no != api.ErrKind || s != "" {
				t.Error("kind", kind, s, no)
			}
		}
	}
	for kind := console.Job; kind <= console.Fair; kind++ {
		if s, no := console.Write(full(kind)); no != api.ErrField || s != "" {
			t.Error("all fields", kind, s, no)
		}
		for i, set := range []func(l *console.Line){
			func(l *console.Line) { l.Groups = 1 },
			func(l *console.Line) { l.Op.Kind = 1 }, func(l *console.Line) { l.Op.In = []int{0} }, func(l *console.Line) { l.Op.Fn.Op = -1 }, func(l *console.Line) { l.Op.Fn.A = 1 }, func(l *console.Line) { l.Op.Fn.B = 1 }, func(l *console.Line) { l.Op.Parts = 1 }, func(l *console.Line) { l.Op.Rate = 1 }, func(l *console.Line) { l.Op.Cost = 1 },
			func(l *console.Line) { l.No = 1 }, func(l *console.Line) { l.Recs = []api.Rec{{}} },
			func(l *console.Line) { l.Config.Workers = 1 }, func(l *console.Line) { l.Config.Slots = 1 }, func(l *console.Line) { l.Config.Link = 1 }, func(l *console.Line) { l.Config.Disk = 1 }, func(l *console.Line) { l.Config.Every = 1 }, func(l *console.Line) { l.Config.Timeout = 1 }, func(l *console.Line) { l.Config.Window = 1 }, func(l *console.Line) { l.Config.Cooldown = 1 }, func(l *console.Line) { l.Config.Slack = 1 }, func(l *console.Line) { l.Config.Most = 1 }, func(l *console.Line) { l.Config.Auto = true }, func(l *console.Line) { l.Config.Par = []int{0} },
			func(l *console.Line) { l.Step.Kind = 1 }, func(l *console.Line) { l.Step.N = 1 }, func(l *console.Line) { l.Step.M = 1 }, func(l *console.Line) { l.Step.Par = []int{0} },
			func(l *console.Line) { l.Count = 1 },
		} {
			owner := []int{1, 2, 2, 2, 2, 2, 2, 2, 2, 3, 3, 4, 4, 4, 4, 4, 4, 4, 4, 4, 4, 4, 4, 5, 5, 5, 5, 6}[i]
			l := console.Line{Kind: kind}
			set(&l)
			want := api.OK
			if owner != kind {
				want = api.ErrField
			}
			if s, no := console.Write(l); no != want || (s == "") != (no != api.OK) {
				t.Error("kind", kind, "with a field of", owner, s, no)
			}
		}
		l := console.Line{Kind: kind, Op: api.Op{In: []int{}}, Recs: []api.Rec{}, Config: api.Config{Par: []int{}}, Step: api.Step{Par: []int{}}}
		s, no := console.Write(l)
		if got, _ := console.Read(s); no != api.OK || !reflect.DeepEqual(got, console.Line{Kind: kind}) {
			t.Error("empty slices", kind, s, no)
		}
	}
}

func anyLine(r *rand.Rand) console.Line {
	num := func() int { return int(r.Uint64()) >> r.Intn(64) }
	list := func() []int {
		var l []int
		for range r.Intn(4) {
			l = append(l, num())
		}
		return l
	}
	l := console.Line{Kind: 1 + r.Intn(6)}
	switch l.Kind {
	case console.Job:
		l.Groups = num()
	case console.Oper:
		l.Op = api.Op{Kind: num(), In: list(), Fn: api.Fn{Op: num(), A: num(), B: num()}, Parts: num(), Rate: num(), Cost: num()}
	case console.Part:
		l.No = num()
		for range r.Intn(4) {
			l.Recs = append(l.Recs, api.Rec{Key: num(), Val: num()})
		}
	case console.Config:
		l.Config = api.Config{Workers: num(), Slots: num(), Link: num(), Disk: num(), Every: num(), Timeout: num(), Window: num(), Cooldown: num(), Slack: num(), Most: num(), Auto: r.Intn(2) == 0, Par: list()}
	case console.Do:
		l.Step = api.Step{Kind: num(), N: num(), M: num(), Par: list()}
	case console.Fair:
		l.Count = num()
	}
	return l
}

// P31.4
func TestRoundTrip(t *testing.T) {
	r := rand.New(rand.NewSource(31))
	for range 5000 {
		l := anyLine(r)
		s, no := console.Write(l)
		if no != api.OK {
			t.Fatal("Write", l, no)
		}
		reads(t, s, l)
	}
	fine := 0
	words := []string{"job", "op", "part", "config", "do", "fair", "0", "1", "-1", "01", "", "12", "-0", "x"}
	for range 50000 { // any line that is read is written as it was
		l := []string{words[r.Intn(6)]}
		for range r.Intn(14) {
			l = append(l, words[6+r.Intn(3)])
		}
		if r.Intn(4) == 0 {
			l[r.Intn(len(l))] = words[r.Intn(len(words))]
		}
		s := strings.Join(l, " ")
		if x, no := console.Read(s); no == api.OK {
			fine++
			if back, _ := console.Write(x); back != s {
				t.Fatalf("%q is written as %q", s, back)
			}
		}
	}
	if fine < 1000 {
		t.Error("too few lines", fine)
	}
}

// R3
func TestMemory(t *testing.T) {
	in := []int{1, 2, 3}
	l := console.Line{Kind: console.Oper, Op: api.Op{In: in[:1]}}
	console.Write(l)
	if !slices.Equal(in, []int{1, 2, 3}) {
		t.Error("the line was changed", in)
	}
}

// texts joins lines, and ends each.
func text(lines ...string) string { return strings.Join(lines, "\n") + "\n" }

// head is a job of a source with two partitions, a Fold, and a sink, with its input.
var head = []string{"job 8", "op 1 0 0 0 2 10 1", "op 5 1 0 0 0 0 2 0", "op 8 0 0 0 0 0 1 1", "part 0 1 5 1 6", "part 0 2 7", "config 2 4 2 2000 5 9 4 6 1 4 0 1 1 1"}

func with(more ...string) string { return text(append(slices.Clone(head), more...)...) }

func runs(t *testing.T, name, in string, want string, wantNo api.Errno) {
	t.Helper()
	for range 2 {
		if got, no := console.Run(in); got != want || no != wantNo {
			t.Errorf("%s: %q, %d, want %q, %d", name, got, no, want, wantNo)
		}
	}
}

// P31.3: what is no script.
func TestNoScripts(t *testing.T) {
	ok := text("status 1 0", "par 1 1 1", "out 2")
	runs(t, "the script", with(), ok, api.OK)
	for name, in := range map[string]string{
		"nothing":                      "",
		"an empty line":                "\n",
		"no end":                       strings.TrimSuffix(with(), "\n"),
		"two ends":                     with() + "\n",
		"a carriage return":            strings.ReplaceAll(with(), "\n", "\r\n"),
		"an empty line inside":         with("do 2 0 0", "", "do 2 0 0"),
		"a line that is none":          with("do 2 0"),
		"no job":                       text(head[1:]...),
		"the job later":                text(append(slices.Clone(head[1:]), head[0])...),
		"the job twice":                with("job 8"),
		"the job twice at the start":   text(append([]string{head[0]}, head...)...),
		"no config":                    text(head[:6]...),
		"two configs":                  with(head[6]),
		"a config behind a step":       text(append(slices.Clone(head[:6]), "do 2 0 0", head[6])...),
		"an operator behind a step":    text(append(slices.Clone(head[:3]), head[4], head[5], head[6], "do 2 0 0", head[3])...),
		"a partition behind a step":    text(append(slices.Clone(head[:5]), head[6], "do 2 0 0", head[5])...),
		"a partition behind fair 0":    text(append(slices.Clone(head[:5]), head[6], "fair 0", head[5])...),
		"a negative count":             with("fair -1"),
		"a count below all":            with("fair -9223372036854775808"),
		"too many rounds":              with("fair 4001"),
		"too many rounds in two lines": with("fair 2000", "fair 2001"),
		"rounds beyond all numbers":    with("fair 9223372036854775807", "fair 9223372036854775807"),
		"one step too many":            with("fair 4000", "do 2 0 0"),
		"4001 steps":                   with(slices.Repeat([]string{"do 2 0 0"}, 4001)...),
		"a negative count that evens":  with("fair 4001", "fair -1"),
		"a job alone":                  text("job 8"),
	} {
		runs(t, name, in, "", api.ErrWord)
	}
	order := []string{head[0], head[4], head[6], head[1], head[5], head[2], head[3]}
	runs(t, "lines in another order", text(order...), ok, api.OK)
	runs(t, "4000 rounds", with("fair 4000"), text("status 4 0", "par 1 1 1", "out 2 1 5 1 11 2 7"), api.OK)
	got, no := console.Run(with(slices.Repeat([]string{"do 2 0 0"}, 4000)...))
	if no != api.OK || strings.Count(got, "\n") != 4003 || !strings.HasSuffix(got, "status 1 4000\npar 1 1 1\nout 2\n") {
		t.Error("4000 steps", no)
	}
}

// P31.3: texts that are too long, and the errors of engine.New; which comes first.
func TestErrors(t *testing.T) {
	long := strings.Repeat("x", api.MaxText)
	runs(t, "2^20 bytes that are no script", long, "", api.ErrWord)
	runs(t, "a byte more", long+"\n", "", api.ErrLong)
	pad := strings.Repeat("fair 0\n", (api.MaxText-len(with()))/7)
	for len(with())+len(pad) < api.MaxText {
		pad = strings.Replace(pad, "fair 0\n", "do 3 0 -1\n", 1)
		if len(with())+len(pad) > api.MaxText {
			pad = strings.Replace(pad, "fair 0\n", "", 1)
		}
	}
	if got, no := console.Run(with() + pad); len(with()+pad) != api.MaxText || no != api.OK || got == "" {
		t.Error("a script of 2^20 bytes", len(with()+pad), no)
	}
	runs(t, "a script of a byte more", with()+strings.Replace(pad, "do 3 0 -1", "do 3 0 -10", 1), "", api.ErrLong)
	for name, x := range map[string]struct {
		at   int
		line string
		no   api.Errno
	}{
		"groups":     {0, "job 65", api.ErrArg},
		"kind":       {2, "op 9 1 0 0 0 0 2 0", api.ErrKind},
		"inputs":     {2, "op 5 1 0 0 0 0 2 7", api.ErrInput},
		"a cycle":    {2, "op 5 1 0 0 0 0 2 1", api.ErrInput},
		"partitions": {5, "part 0 2 7 1 9", api.ErrKeys},
		"no source":  {5, "part 1 2 7", api.ErrInput},
		"config":     {6, "config 0 4 2 2000 5 9 4 6 1 4 0 1 1 1", api.ErrArg},
		"slots":      {6, "config 1 2 2 2000 5 9 4 6 1 4 0 1 1 1", api.ErrSlots},
	} {
		l := slices.Clone(head)
		l[x.at] = x.line
		runs(t, name, text(append(l, "do 2 0 0")...), "", x.no)
		runs(t, name+", and a wrong line", text(append(l, "do")...), "", api.ErrWord)
	}
	runs(t, "a partition too many", with()[:len(with())-len(head[6])-1]+"part 0 9 9\n"+head[6]+"\n", "", api.ErrMany)
	runs(t, "no operators", text("job 8", head[6]), "", api.ErrMany)
}

// expected is what should come of a script, by an engine of the test's own.
func expected(s api.Spec, feeds []api.Feed, c api.Config, lines []console.Line) string {
	e, _ := engine.New(s, feeds, c)
	var b strings.Builder
	put := func(word string, l ...int) {
		b.WriteString(word)
		for _, n := range l {
			b.WriteString(" " + strconv.Itoa(n))
		}
		b.WriteString("\n")
	}
	for _, l := range lines {
		if l.Kind == console.Do {
			o := e.Do(l.Step)
			decided := 0
			if o.Decided {
				decided = 1
			}
			put("step", append([]int{int(o.Code), o.Status, o.Committed, decided}, o.Par...)...)
		}
		for round := 0; round < l.Count; round++ {
			for n, tasks := 0, e.Tasks(); n < tasks; n++ {
				e.Do(api.Step{Kind: api.SPick, N: n, M: round})
			}
			e.Do(api.Step{Kind: api.SAct})
		}
	}
	put("status", e.Status(), e.Now())
	put("par", e.Par()...)
	for i, o := range s.Ops {
		if o.Kind == api.Sink {
			l := []int{i}
			for _, r := range e.Output(i) {
				l = append(l, r.Key, r.Val)
			}
			put("out", l...)
		}
	}
	return b.String()
}

// P31.3, P31.5: any scripts, against an engine.
func TestAnyScripts(t *testing.T) {
	r := rand.New(rand.NewSource(32))
	s := api.Spec{Groups: 8, Ops: []api.Op{
		{Kind: api.Sink, In: []int{3}, Cost: 1}, {Kind: api.Source, Parts: 2, Rate: 90, Cost: 3}, {Kind: api.Source, Parts: 1, Rate: 5, Cost: 1},
		{Kind: api.Fold, In: []int{5}, Fn: api.Fn{Op: api.FSum}, Cost: 2}, {Kind: api.Sink, In: []int{1}, Cost: 1}, {Kind: api.Union, In: []int{2, 1}, Cost: 1},
	}}
	for range 60 {
		feeds := []api.Feed{{Op: 1, Parts: make([][]api.Rec, 2)}, {Op: 2, Parts: make([][]api.Rec, 1)}}
		for i := range 30 {
			f := feeds[i%2]
			p := i % len(f.Parts)
			f.Parts[p] = append(f.Parts[p], api.Rec{Key: 10*f.Op + 3*p + i%3, Val: i})
		}
		c := api.Config{Workers: 3, Slots: 8, Link: 1 + r.Intn(3), Disk: 3000, Every: 4, Timeout: 9, Window: 3, Cooldown: 4, Slack: 1, Most: 4, Auto: r.Intn(2) == 0, Par: []int{1, 2, 1, 1 + r.Intn(3), 1, 2}}
		lines := []console.Line{{Kind: console.Job, Groups: 8}, {Kind: console.Config, Config: c}}
		for _, o := range s.Ops {
			lines = append(lines, console.Line{Kind: console.Oper, Op: o})
		}
		for p := range 2 { // the partitions of the two feeds, mixed
			for _, f := range feeds {
				if p < len(f.Parts) {
					lines = append(lines, console.Line{Kind: console.Part, No: f.Op, Recs: f.Parts[p]})
				}
			}
		}
		for range r.Intn(60) {
			l := console.Line{Kind: console.Fair, Count: r.Intn(30)}
			if r.Intn(4) > 0 {
				l = console.Line{Kind: console.Do, Step: api.Step{Kind: []int{1, 1, 2, 2, 2, 3, 3, 4, 5, 6, 7, 9}[r.Intn(12)], N: r.Intn(4), M: r.Intn(200)}}
				if l.Step.Kind == api.SRescale {
					l.Step.Par = []int{1, 1 + r.Intn(2), 1, 1 + r.Intn(4), 1, 1}
				}
			}
			lines = append(lines, l)
		}
		in := ""
		for _, l := range lines {
			w, _ := console.Write(l)
			in += w + "\n"
		}
		runs(t, "any script", in, expected(s, feeds, c, lines), api.OK)
		if i := strings.Index(in, "fair"); i > 0 {
			runs(t, "with a fair line of 0", in[:i]+"fair 0\n"+in[i:]+"fair 0\n", expected(s, feeds, c, lines), api.OK)
		}
	}
}

func TestExamples(t *testing.T) {
	runs(t, "steps and rounds", with("do 3 0 0", "do 1 0 0", "fair 12", "do 2 0 0", "do 9 9 9", "fair 200", "do 3 0 0"), expected(
		api.Spec{Groups: 8, Ops: []api.Op{{Kind: api.Source, Parts: 2, Rate: 10, Cost: 1}, {Kind: api.Fold, Fn: api.Fn{Op: api.FSum}, In: []int{0}, Cost: 2}, {Kind: api.Sink, In: []int{1}, Cost: 1}}},
		[]api.Feed{{Op: 0, Parts: [][]api.Rec{{{Key: 1, Val: 5}, {Key: 1, Val: 6}}, {{Key: 2, Val: 7}}}}},
		api.Config{Workers: 2, Slots: 4, Link: 2, Disk: 2000, Every: 5, Timeout: 9, Window: 4, Cooldown: 6, Slack: 1, Most: 4, Par: []int{1, 1, 1}},
		[]console.Line{{Kind: 5, Step: api.Step{Kind: 3}}, {Kind: 5, Step: api.Step{Kind: 1}}, {Kind: 6, Count: 12}, {Kind: 5, Step: api.Step{Kind: 2}}, {Kind: 5, Step: api.Step{Kind: 9}}, {Kind: 6, Count: 200}, {Kind: 5, Step: api.Step{Kind: 3}}},
	), api.OK)
	runs(t, "by hand", with("do 3 0 0", "fair 400", "do 3 0 0", "do 0 0 0"), text("step 16 1 0 0 1 1 1", "step 16 4 3 0 1 1 1", "step 2 4 3 0 1 1 1", "status 4 0", "par 1 1 1", "out 2 1 5 1 11 2 7"), api.OK)
	runs(t, "with a rescale", with("do 6 0 0 1 2 1", "fair 400", "do 3 0 0"), text("step 0 1 0 0 1 1 1", "step 16 4 3 0 1 2 1", "status 4 0", "par 1 2 1", "out 2 1 5 2 7 1 11"), api.OK)
}
