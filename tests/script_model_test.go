package tests

import (
	"encoding/hex"
	"fmt"
	"regexp"
	"strconv"
	"strings"
	"testing"

	"loop.example/s02176/impl"
)

// forms are chapter 7's words on lines, with N for a number, W for a word and S for a sample.
var forms = strings.NewReplacer(
	"N", numberForm,
	"W", wordForm,
	"S", wordForm+"="+wordForm+"(?:,"+wordForm+"="+wordForm+")*",
)

const (
	numberForm = `(?:0|[1-9][0-9]{0,12})`
	wordForm   = `(?:[\x21-\x24\x26-\x2b\x2d-\x3c\x3e-\x7e]|%[0-9A-F]{2})+`
)

var (
	configForm = regexp.MustCompile(forms.Replace(`\Aconfig(?: N){7}\z`))
	lineForm   = regexp.MustCompile(forms.Replace(`\A(?:open|crash(?: N)*|(?:arm|fail|cap|tick) N|ask (?:[0-9A-F]{2})+|write W(?: S)+|limit W W (?:N|-1)|checkpoint|count W W|dump W)\z`))
	escapeForm = regexp.MustCompile(`%..`)
)

func modelNumbers(fields []string) []int {
	var numbers []int
	for _, f := range fields {
		n, _ := strconv.Atoi(f)
		numbers = append(numbers, n)
	}
	return numbers
}

func modelWord(word string) string {
	if word == "-" {
		return ""
	}
	return escapeForm.ReplaceAllStringFunc(word, func(e string) string {
		b, _ := hex.DecodeString(e[1:])
		return string(b)
	})
}

func modelConfig(line string) (impl.Config, int, bool) {
	if !configForm.MatchString(line) {
		return impl.Config{}, 0, false
	}
	n := modelNumbers(strings.Fields(line)[1:])
	for i, e := range configEdges() {
		if n[i] < e[0] || n[i] > e[1] {
			return impl.Config{}, 0, false
		}
	}
	return impl.Config{Window: n[0], TenantLimit: n[1], MetricLimit: n[2], Shards: n[3], Hash: n[4], Segment: n[5]}, n[6], true
}

func modelSamples(fields []string) []impl.Sample {
	var all []impl.Sample
	for _, f := range fields {
		var labels []impl.Label
		for _, pair := range strings.Split(f, ",") {
			at := strings.Index(pair, "=")
			labels = append(labels, lab(modelWord(pair[:at]), modelWord(pair[at+1:])))
		}
		all = append(all, sampleOf(0, labels...))
	}
	return all
}

// hasBytes asks what can go wrong in a request of a script: none is long enough for MaxRequest.
func hasBytes(r impl.Request) bool {
	for _, s := range r.Samples {
		for _, l := range s.Labels {
			if len(l.Name) > 255 {
				return false
			}
		}
		if len(s.Labels) > 255 {
			return false
		}
	}
	return len(r.Tenant) <= 255 && len(r.Samples) <= 500
}

// modelAsked gives the bytes that a line hands to the node.
func modelAsked(f []string) string {
	var r impl.Request
	switch f[0] {
	case "ask":
		data, _ := hex.DecodeString(f[1])
		return string(data)
	case "write":
		r = writeReq(modelWord(f[1]), modelSamples(f[2:])...)
	case "tick":
		r = tickReq(modelNumbers(f[1:])[0])
	case "limit":
		r = limitReq(modelWord(f[1]), modelWord(f[2]), modelNumbers(f[3:])[0])
	case "checkpoint":
		r = checkpointReq()
	case "count":
		r = countReq(modelWord(f[1]), modelWord(f[2]))
	case "dump":
		r = dumpReq(modelWord(f[1]))
	}
	if !hasBytes(r) {
		return ""
	}
	return handRequest(r)
}

// modelLine carries one good line out, on the models of the chapters before.
func modelLine(c impl.Config, n impl.Node, line string) (impl.Node, string) {
	f := strings.Split(line, " ")
	d := n.Disk
	var by int
	if len(f) == 2 {
		by, _ = strconv.Atoi(f[1])
	}
	switch f[0] {
	case "open":
		got := modelNodeOpen(c, d)
		return got.node, fmt.Sprintf("open %d\n", got.code)
	case "crash":
		return impl.Node{Disk: impl.DiskCrash(d, modelNumbers(f[1:]))}, "crash\n"
	case "arm":
		n.Disk.CrashAt = min(by, 1) * (d.Count + by)
		return n, ""
	case "fail":
		n.Disk.FailAt = min(by, 1) * (d.Count + by)
		return n, ""
	case "cap":
		if by >= bytesOn(d) && by <= 1000000000 {
			n.Disk.Cap = by
		}
		return n, ""
	}
	got := modelHandle(c, n, modelAsked(f))
	return got.node, fmt.Sprintf("reply %X\n", got.reply)
}

// modelRun is RunScript once more.
func modelRun(script string) string {
	var lines []string
	var numbers []int
	for i, line := range strings.Split(script, "\n") {
		if line != "" {
			lines, numbers = append(lines, line), append(numbers, i+1)
		}
	}
	if len(script) > 20000 || len(lines) > 500 || len(lines) == 0 {
		return "config\n"
	}
	c, room, ok := modelConfig(lines[0])
	if !ok {
		return "config\n"
	}
	for i, line := range lines[1:] {
		if !lineForm.MatchString(line) {
			return fmt.Sprintf("line %d\n", numbers[i+1])
		}
	}
	n := impl.Node{Disk: impl.Disk{Cap: room}}
	var told strings.Builder
	for _, line := range lines[1:] {
		after, said := modelLine(c, n, line)
		n = after
		told.WriteString(said)
	}
	return told.String() + fmt.Sprintf("files %d bytes %d lsn %d\n", len(n.Disk.Files), bytesOn(n.Disk), n.Lsn)
}

// word writes a text, with an escape here and there where none is needed.
func (r *dice) word(text string) string {
	if text == "" || text == "-" {
		return wordFor(text)
	}
	word := ""
	for i := range len(text) {
		if r.below(9) == 0 || text[i] == '-' {
			word += fmt.Sprintf("%%%02X", text[i])
			continue
		}
		word += wordFor(text[i : i+1])
	}
	return word
}

// hasWords tells whether there is a line of words for the request.
func hasWords(q impl.Request) bool {
	for _, s := range q.Samples {
		if s.Bits != 0 || len(s.Labels) == 0 {
			return false
		}
	}
	return (q.Kind != impl.AskWrite || len(q.Samples) > 0) && q.Num >= -1 && (q.Num >= 0 || q.Kind == impl.AskLimit)
}

// lineFor writes a request as a line of words, or as an ask.
func (r *dice) lineFor(q impl.Request) string {
	if r.below(8) == 0 || !hasWords(q) {
		return "ask " + hexed(handRequest(q))
	}
	switch q.Kind {
	case impl.AskTick:
		return fmt.Sprint("tick ", q.Num)
	case impl.AskLimit:
		return fmt.Sprint("limit ", r.word(q.Tenant), " ", r.word(q.Metric), " ", q.Num)
	case impl.AskCheckpoint:
		return "checkpoint"
	case impl.AskCount:
		return "count " + r.word(q.Tenant) + " " + r.word(q.Metric)
	case impl.AskDump:
		return "dump " + r.word(q.Tenant)
	}
	line := "write " + r.word(q.Tenant)
	for _, s := range q.Samples {
		var pairs []string
		for _, l := range s.Labels {
			pairs = append(pairs, r.word(l.Name)+"="+r.word(l.Value))
		}
		line += " " + strings.Join(pairs, ",")
	}
	return line
}

// scriptAsk is a request of a pool's tenant, mostly one whose values are all 0.
func (r *dice) scriptAsk(window int) impl.Request {
	q := r.ask(r.pick(poolTenants...), window)
	if r.below(4) > 0 {
		for i := range q.Samples {
			q.Samples[i].Bits = 0
		}
	}
	return q
}

// diskLine is a line that isn't a request; some are two, to meet an opening that has something to do.
func (r *dice) diskLine() string {
	switch r.below(10) {
	case 0, 1:
		return "open"
	case 2:
		return r.pick("fail 1", "arm 1") + "\nopen"
	case 3, 4:
		return "crash" + strings.Repeat(fmt.Sprint(" ", r.below(60)), r.below(4))
	case 5:
		return fmt.Sprint("arm ", r.below(7))
	case 6:
		return fmt.Sprint("fail ", r.below(7))
	case 7:
		return fmt.Sprintf("fail 2\ntick 1\ncrash %d\nfail 1\nopen", r.below(40))
	}
	return fmt.Sprint("cap ", r.below(4000))
}

func headOf(c impl.Config, room int) string {
	return configLine(c.Window, c.TenantLimit, c.MetricLimit, c.Shards, c.Hash, c.Segment, room)
}

// oddLine is a request of no form.
func (r *dice) oddLine() string {
	if r.below(3) == 0 {
		return "dump " + strings.Repeat("a", 250+r.below(10))
	}
	return "ask " + hexed("\x05"+r.bytes(9))
}

// scriptText is a script with up to n lines behind an opening, all of them good.
func (r *dice) scriptText(n int) string {
	c := r.nodeConfig()
	lines := []string{headOf(c, 300+r.below(4000)), "open"}
	for range r.below(n + 1) {
		switch r.below(30) {
		case 0, 1, 2, 3, 4, 5, 6:
			lines = append(lines, r.diskLine())
		case 7:
			lines = append(lines, "")
		case 8:
			lines = append(lines, r.oddLine())
		default:
			lines = append(lines, r.lineFor(r.scriptAsk(c.Window)))
		}
	}
	return strings.Join(lines, "\n") + r.pick("", "\n", "\n\n")
}

func expectModelRun(t *testing.T, what, script string) string {
	t.Helper()
	want := modelRun(script)
	if got := impl.RunScript(script); got != want {
		t.Fatalf("%s, %q: %q, not %q", what, script, got, want)
	}
	return want
}

// kindsTold counts the answers by their beginnings.
func kindsTold(seen map[string]int, told string) {
	for _, line := range strings.Split(told, "\n") {
		seen[line[:min(len(line), 8)]]++
		if !strings.HasPrefix(line, "reply") {
			word, _, _ := strings.Cut(line, " ")
			seen[word]++
		}
	}
}

// Promise 14: the lines are those of the document, whatever the disk does.
func TestScriptsAgainstAModel(t *testing.T) {
	seen := map[string]int{}
	for seed := range 900 {
		r := dice(seed)
		kindsTold(seen, expectModelRun(t, fmt.Sprint("seed ", seed), r.scriptText(120)))
	}
	for _, kind := range []string{"open 0", "open 1", "open 2", "crash", "reply 00", "reply 01", "reply 02", "reply 03", "reply 04", "files"} {
		if seen[kind] < 50 {
			t.Errorf("%q %d times: the test is too tame", kind, seen[kind])
		}
	}
}

// spoiltLine is a good line with a byte changed, left out or put in, or one that only looks like a line.
func (r *dice) spoiltLine(line string) string {
	at := r.below(len(line))
	b := r.pick(" ", "%", "=", ",", "-", "0", "1", "a", "A", "\x00", "\xff", "\n", "9", "f")
	switch r.below(6) {
	case 0:
		return line[:at] + b + line[at+1:]
	case 1:
		return line[:at] + b + line[at:]
	case 2:
		return line[:at] + line[at+1:]
	case 3:
		return line[:at]
	case 4:
		fields := strings.Split(line, " ")
		i, j := r.below(len(fields)), r.below(len(fields))
		fields[i], fields[j] = fields[j], fields[i]
		return strings.Join(fields, " ")
	}
	return line + " " + r.pick("1", "a", "a=b", "-", "-1", "00", "")
}

func TestSpoiltScriptsAgainstAModel(t *testing.T) {
	seen := map[string]int{}
	for seed := range 4000 {
		r := dice(seed)
		lines := strings.Split(r.scriptText(8), "\n")
		at := r.below(len(lines))
		if lines[at] != "" {
			lines[at] = r.spoiltLine(lines[at])
		}
		kindsTold(seen, expectModelRun(t, fmt.Sprint("seed ", seed), strings.Join(lines, "\n")))
	}
	for _, kind := range []string{"config", "line", "line 2", "line 3", "line 9", "files"} {
		if seen[kind] < 20 {
			t.Errorf("%q %d times: the test is too tame", kind, seen[kind])
		}
	}
}

// Promise 14 says at all scripts: also at those that are made of scraps.
func TestScrapsAgainstAModel(t *testing.T) {
	scraps := []string{"config", "open", "crash", "arm", "fail", "cap", "ask", "write", "tick", "limit", "checkpoint", "count", "dump", " ", " ", " ", " ", "\n", "\n", "\n", "-", "-1", "0", "1", "500", "a", "up", "=", ",", "%", "%41", "%0a", "\x00", "\xff", "__name__=up", "04", scriptHead}
	for seed := range 6000 {
		r := dice(seed)
		script := r.pick("", scriptHead+"\n", scriptHead+"\nopen\n", "\n"+scriptHead+"\n\n")
		for range r.below(12) {
			script += r.pick(scraps...)
		}
		expectModelRun(t, fmt.Sprint("seed ", seed), script)
		if seed%3 == 0 {
			expectModelRun(t, fmt.Sprint("seed ", seed), r.bytes(60))
		}
	}
}

// Every stop of every kind of line, with all that a crash may keep: what comes behind is that of the model.
func TestStopsAgainstAModel(t *testing.T) {
	behind := []string{"", "crash", "crash 9", "crash 9 9 9", "crash 99 99 99"}
	for _, s := range stops() {
		for n := range len(s.left) + 2 {
			for _, how := range []string{"arm", "fail"} {
				for _, crash := range behind {
					script := fmt.Sprintf("config 5 3 2 2 0 %d 3000\n%s%s %d\n%s\n%s\nopen\ndump a\ncount a -\n%s\ntick 1\ncrash\nopen\ndump a\ncount a -\n", s.segment, s.ahead, how, n, s.line, crash, s.line)
					expectModelRun(t, s.line, script)
				}
			}
		}
	}
}
