package tests

import (
	"fmt"
	"slices"
	"strings"
	"testing"

	"loop.example/s02176/impl"
)

// drawn is a line, or an opening and the questions right behind it, with what is asked there.
type drawn struct {
	keyword string
	text    string
	asks    []impl.Request
}

func (r *dice) drawnAsk(window int) drawn {
	q := r.scriptAsk(window)
	return drawn{"ask", r.lineFor(q), []impl.Request{q}}
}

// drawnOpen asks for all that can be told of the state.
func (r *dice) drawnOpen() drawn {
	open := drawn{keyword: "open", text: "open"}
	for _, tenant := range poolTenants {
		open.asks = append(open.asks, dumpReq(tenant))
		for _, name := range append([]string{""}, poolMetrics...) {
			open.asks = append(open.asks, countReq(tenant, name))
		}
	}
	for _, q := range open.asks {
		open.text += "\n" + r.lineFor(q)
	}
	return open
}

func (r *dice) drawnCrash() drawn {
	text := "crash"
	for range r.below(8) {
		text += fmt.Sprint(" ", r.below(80)+r.below(2)*999)
	}
	return drawn{keyword: "crash", text: text}
}

// toldOf runs the lines and gives what they write, without the last line, and that line apart.
func toldOf(t *testing.T, c impl.Config, room int, lines []drawn) ([]string, string) {
	t.Helper()
	script := []string{headOf(c, room)}
	for _, l := range lines {
		script = append(script, l.text)
	}
	all := strings.Join(script, "\n")
	if len(all) > impl.MaxScript || strings.Count(all, "\n") >= impl.MaxLines {
		t.Fatalf("%d bytes: the script is too long", len(all))
	}
	told := strings.Split(strings.TrimSuffix(impl.RunScript(all), "\n"), "\n")
	return told[:len(told)-1], told[len(told)-1]
}

// machine knows no disk: nothing is ever refused by one, and a crash loses nothing.
type machine struct {
	*modelState
	up  bool
	lsn int
}

func (m *machine) answer(q impl.Request) string {
	if !m.up {
		return "reply 04"
	}
	reply := m.reply(q)
	logged := reply == "\x00" && q.Kind != impl.AskCheckpoint
	if q.Kind == impl.AskWrite && len(reply) > 3 {
		logged = strings.ContainsAny(reply[3:], "\x01\x02")
	}
	if logged {
		m.lsn++
	}
	return "reply " + hexed(reply)
}

func (m *machine) do(l drawn) []string {
	var told []string
	switch l.keyword {
	case "open":
		m.up = true
		told = append(told, "open 0")
	case "crash":
		m.up = false
		return []string{"crash"}
	}
	for _, q := range l.asks {
		told = append(told, m.answer(q))
	}
	return told
}

// Promises 12 and 14 where the disk refuses nothing: the lines hang on the states alone. Promise 7: and not on the hashing.
func TestScriptsAgainstAMachineWithoutADisk(t *testing.T) {
	asked, downs := 0, 0
	for seed := range 400 {
		r := dice(seed)
		c := r.nodeConfig()
		m := machine{modelState: newModel(c)}
		var lines []drawn
		var want []string
		for range 60 {
			l := r.drawnAsk(c.Window)
			switch r.below(18) {
			case 0, 1:
				l = drawn{keyword: "open", text: "open"}
			case 2:
				l = r.drawnCrash()
			}
			lines, want = append(lines, l), append(want, m.do(l)...)
			if asked++; l.keyword == "ask" && !m.up {
				downs++
			}
		}
		lsn := m.lsn
		if !m.up {
			lsn = 0
		}
		for _, k := range hashings(c)[seed%3*3:][:3] {
			told, last := toldOf(t, k, impl.MaxDisk, lines)
			for i := range want {
				if i >= len(told) || told[i] != want[i] {
					t.Fatalf("seed %d, line %d: %q, not %q", seed, i, told[min(i, len(told)):], want[i:])
				}
			}
			if len(told) != len(want) || !strings.HasPrefix(last, "files ") || !strings.HasSuffix(last, fmt.Sprint(" lsn ", lsn)) {
				t.Fatalf("seed %d: %q, %q, not %q and lsn %d", seed, told, last, want, lsn)
			}
		}
	}
	if asked < 20000 || downs < 1500 {
		t.Errorf("%d lines, %d of them to a node that isn't Up: the test is too tame", asked, downs)
	}
}

// witness watches a script on a bad disk: it knows the changes that were answered, and the one that failed since.
type witness struct {
	config     impl.Config
	state      *modelState
	sure       []impl.Request
	open       []impl.Request
	up, failed bool
	failures   int
	kept, lost int
}

// after gives the state that these changes come to.
func (w *witness) after(changes ...impl.Request) *modelState {
	m := newModel(w.config)
	for _, q := range slices.Concat(w.sure, changes) {
		m.reply(q)
	}
	return m
}

func repliesOf(m *modelState, asks []impl.Request) []string {
	var told []string
	for _, q := range asks {
		told = append(told, "reply "+hexed(m.reply(q)))
	}
	return told
}

// opened asks for the state of all that was answered, or of that and the change under way.
func (w *witness) opened(asks []impl.Request, told []string) error {
	w.up, w.failed = told[0] == "open 0", false
	if !w.up {
		if told[0] != "open 1" && told[0] != "open 2" || slices.ContainsFunc(told[1:], func(s string) bool { return s != "reply 04" }) {
			return fmt.Errorf("opening: %q", told)
		}
		return nil
	}
	if slices.Equal(told[1:], repliesOf(w.state, asks)) {
		w.lost += len(w.open)
		w.open = nil
		return nil
	}
	whole := w.after(w.open...)
	if !slices.Equal(told[1:], repliesOf(whole, asks)) {
		return fmt.Errorf("opening: %q, neither %q nor %q", told, repliesOf(w.state, asks), repliesOf(whole, asks))
	}
	w.sure, w.state = append(w.sure, w.open...), whole
	w.kept += len(w.open)
	w.open = nil
	return nil
}

// asked asks that a node which failed is deaf, and that any other answers by the states or fails.
func (w *witness) asked(q impl.Request, told string) error {
	changes, want := q.Kind <= impl.AskCheckpoint, ""
	switch {
	case !w.up:
		want = "reply 04"
	case w.failed && changes:
		want = "reply 03"
	case changes && (told == "reply 03" || told == "reply 04"):
		w.failures++
		w.up, w.failed = told == "reply 03", true
		if q.Kind != impl.AskCheckpoint {
			w.open = []impl.Request{q}
		}
		return nil
	default:
		want = "reply " + hexed(w.state.reply(q))
	}
	if w.up && changes && !w.failed {
		w.sure = append(w.sure, q)
	}
	if told != want {
		return fmt.Errorf("%s: %q, not %q", toldRequest(q), told, want)
	}
	return nil
}

// see looks at what a line wrote.
func (w *witness) see(l drawn, told []string) error {
	switch l.keyword {
	case "quiet":
		return nil
	case "crash":
		w.up, w.failed = false, false
		if told[0] != "crash" {
			return fmt.Errorf("%q: %q", l.text, told[0])
		}
		return nil
	case "open":
		return w.opened(l.asks, told)
	}
	return w.asked(l.asks[0], told[0])
}

// tells is how many lines it writes.
func (l drawn) tells() int {
	if l.keyword == "open" || l.keyword == "crash" {
		return 1 + len(l.asks)
	}
	return len(l.asks)
}

// stormy draws lines with eight openings, among crashes and faults.
func (r *dice) stormy(window int) []drawn {
	lines := []drawn{r.drawnOpen()}
	for opens := 1; opens < 8 && len(lines) < 170; {
		switch r.below(16) {
		case 0, 1:
			lines = append(lines, drawn{keyword: "quiet", text: fmt.Sprint(r.pick("arm ", "fail "), 1+r.below(7))})
		case 2:
			if r.below(4) > 0 {
				lines = append(lines, r.drawnCrash())
			}
			if r.below(4) == 0 {
				lines = append(lines, drawn{keyword: "quiet", text: r.pick("arm 1", "fail 1", "cap 400", "cap 900")})
			}
			lines = append(lines, r.drawnOpen())
			opens++
		default:
			lines = append(lines, r.drawnAsk(window))
		}
	}
	return lines
}

// Promises 9, 10 and 11 over scripts: what was answered is there again, nothing else comes, and what failed is deaf.
func TestScriptsThroughCrashes(t *testing.T) {
	failures, kept, lost := 0, 0, 0
	for seed := range 400 {
		r := dice(seed)
		w := witness{config: r.nodeConfig()}
		w.state = newModel(w.config)
		lines := r.stormy(w.config.Window)
		told, _ := toldOf(t, w.config, 400+r.below(3000), lines)
		for i, l := range lines {
			if len(told) < l.tells() {
				t.Fatalf("seed %d, line %d: %q", seed, i, told)
			}
			if err := w.see(l, told[:l.tells()]); err != nil {
				t.Fatalf("seed %d, line %d: %v", seed, i, err)
			}
			told = told[l.tells():]
		}
		if len(told) > 0 {
			t.Fatalf("seed %d: %q", seed, told)
		}
		failures, kept, lost = failures+w.failures, kept+w.kept, lost+w.lost
	}
	if failures < 500 || kept < 100 || lost < 100 {
		t.Errorf("%d failures, %d changes kept by them and %d lost: the test is too tame", failures, kept, lost)
	}
}
