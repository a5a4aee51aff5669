package tests

import (
	"fmt"
	"strings"
	"testing"

	"loop.example/s02176/impl"
)

// scriptHead is the config line of most scripts: a Window of 5, three series a tenant and two a metric, and all in one segment.
const scriptHead = "config 5 3 2 2 0 500 3000"

// noneDone is the last line of a script that didn't touch its disk.
const noneDone = "files 0 bytes 0 lsn 0"

// expectScript asks for just this answer, twice.
func expectScript(t *testing.T, script, want string) {
	t.Helper()
	for range 2 {
		if got := impl.RunScript(script); got != want {
			t.Fatalf("%.300q: %.400q, not %.400q", script, got, want)
		}
	}
}

// expectRunOn runs these lines behind a config line of that Segment and Cap, and asks for the lines of want, under every hashing,
// with and without a byte 10 at the end, and with empty lines all around.
func expectRunOn(t *testing.T, segment, room int, lines, want string) {
	t.Helper()
	for _, c := range hashings(impl.Config{}) {
		head := fmt.Sprintf("config 5 3 2 %d %d %d %d", c.Shards, c.Hash, segment, room)
		text := head + "\n" + lines
		for _, script := range []string{text, text + "\n", "\n" + strings.ReplaceAll(text, "\n", "\n\n\n") + "\n\n"} {
			expectScript(t, script, want+"\n")
		}
	}
}

func expectRun(t *testing.T, lines, want string) {
	t.Helper()
	expectRunOn(t, 500, 3000, lines, want)
}

// expectBadLine puts the line behind the config line, among good lines, and at the end.
func expectBadLine(t *testing.T, line string) {
	t.Helper()
	expectScript(t, scriptHead+"\n"+line, "line 2\n")
	expectScript(t, scriptHead+"\n"+line+"\n", "line 2\n")
	expectScript(t, "\n"+scriptHead+"\nopen\n\ntick 1\n"+line+"\ntick 1\n", "line 6\n")
}

// expectGoodLine asks only that the line is one.
func expectGoodLine(t *testing.T, line string) {
	t.Helper()
	got := impl.RunScript(scriptHead + "\nopen\n" + line + "\n")
	if !strings.HasPrefix(got, "open 0\n") {
		t.Errorf("%q: %.200q", line, got)
	}
}

// expectNoScript asks for the answer to what has no config line.
func expectNoScript(t *testing.T, script string) {
	t.Helper()
	expectScript(t, script, "config\n")
}

// hexed is a text as a script has it behind ask and reply.
func hexed(text string) string { return fmt.Sprintf("%X", text) }

// wordFor writes a text as a word, in which only those bytes are escaped that must be.
func wordFor(text string) string {
	if text == "" {
		return "-"
	}
	if text == "-" {
		return "%2D"
	}
	word := make([]byte, 0, 3*len(text))
	for _, b := range []byte(text) {
		if b < '!' || b > '~' || strings.IndexByte("%,=", b) >= 0 {
			word = fmt.Appendf(word, "%%%02X", b)
			continue
		}
		word = append(word, b)
	}
	return string(word)
}

// eachLine has a line of every kind, and of every form that one has.
func eachLine() []string {
	return []string{
		"open", "crash", "crash 0", "crash 30 0 9999999999999", "arm 0", "arm 9999999999999", "fail 0", "fail 7", "cap 0", "cap 3000",
		"ask 00", "ask 0123456789ABCDEF", "write a b=c", "write a b=c,d=e,f=g", "write - -=- b=%00,d=-", "tick 0", "tick 10",
		"limit a - 0", "limit a up -1", "limit - %2D 9999999999999", "checkpoint", "count a -", "count - up", "dump a", "dump -",
	}
}
