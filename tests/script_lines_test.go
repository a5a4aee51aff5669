package tests

import (
	"fmt"
	"slices"
	"strings"
	"testing"

	"loop.example/s02176/impl"
)

func TestScriptWithoutLines(t *testing.T) {
	for _, script := range []string{"", "\n", "\n\n\n", strings.Repeat("\n", 20000), strings.Repeat("\n", 20001), " ", "\n \n", "\r\n", "open", "open\n" + scriptHead, "-\n" + scriptHead, " \n" + scriptHead} {
		expectNoScript(t, script)
	}
}

func TestScriptOfItsConfigLineAlone(t *testing.T) {
	for _, script := range []string{scriptHead, scriptHead + "\n", "\n\n" + scriptHead, "\n" + scriptHead + "\n\n\n"} {
		expectScript(t, script, noneDone+"\n")
	}
	for _, bad := range []string{scriptHead + " ", scriptHead + "\r\n", " " + scriptHead, "\x00" + scriptHead, scriptHead + " " + scriptHead} {
		expectNoScript(t, bad)
	}
}

// padded has n bytes in all; what is missing is put where the mark is.
func padded(t *testing.T, n int, pad, script string) string {
	t.Helper()
	script = strings.Replace(script, "@", strings.Repeat(pad, n+1-len(script)), 1)
	if len(script) != n {
		t.Fatalf("%d bytes, not %d", len(script), n)
	}
	return script
}

func TestScriptOfMaxScriptBytes(t *testing.T) {
	for _, row := range []struct{ pad, script, want string }{
		{"\n", "@" + scriptHead + "\nopen", "open 0\nfiles 1 bytes 0 lsn 0\n"},
		{"\n", scriptHead + "\n@\nopen\n", "open 0\nfiles 1 bytes 0 lsn 0\n"},
		{"\n", scriptHead + "\nopen@", "open 0\nfiles 1 bytes 0 lsn 0\n"},
		{"x", scriptHead + "\nopen\ndump @", "open 0\nreply 01\nfiles 1 bytes 0 lsn 0\n"},
		{"x", scriptHead + "\nopen\ndump @\n", "open 0\nreply 01\nfiles 1 bytes 0 lsn 0\n"},
		{"x", scriptHead + "\nopen\nwrite a __name__=up,a=@\n", "open 0\nreply 0000012B\nfiles 1 bytes 0 lsn 0\n"},
		{"x", scriptHead + "\nopen\n@\n", "line 3\n"},
		{" ", scriptHead + "\nopen\n@\n", "line 3\n"},
		{" 1", scriptHead + "\n\n\ncrash@\nopen\n", "crash\nopen 0\nfiles 1 bytes 0 lsn 0\n"},
		{"x", scriptHead + "@", "config\n"},
		{"\n", "@", "config\n"},
	} {
		script, size := row.script, impl.MaxScript
		if len(row.pad) == 2 {
			script = strings.Replace(script, "@", strings.Repeat(row.pad, (size-len(script))/2)+"@", 1)
			row.pad = "0"
		}
		expectScript(t, padded(t, size-1, row.pad, script), row.want)
		expectScript(t, padded(t, size, row.pad, script), row.want)
		expectNoScript(t, padded(t, size+1, row.pad, script))
		expectNoScript(t, padded(t, 3*size, row.pad, script))
	}
}

func TestScriptOfMaxLinesLines(t *testing.T) {
	for _, between := range []string{"\n", "\n\n", "\n\n\n\n\n"} {
		for _, line := range []string{"crash", "arm 0", "open"} {
			opened := "files 0 bytes 0 lsn 0\n"
			if line == "open" {
				opened = "files 1 bytes 0 lsn 0\n"
			}
			said := map[string]string{"crash": "crash\n", "open": "open 0\n"}[line]
			rest := strings.Repeat(between+line, 499)
			for _, end := range []string{"", "\n", "\n\n\n\n\n\n"} {
				expectScript(t, scriptHead+rest+end, strings.Repeat(said, 499)+opened)
				expectScript(t, "\n\n"+scriptHead+rest+end, strings.Repeat(said, 499)+opened)
				expectNoScript(t, scriptHead+rest+between+line+end)
				expectNoScript(t, scriptHead+rest+between+"no line"+end)
				expectNoScript(t, scriptHead+rest+between+" "+end)
			}
			expectScript(t, scriptHead+strings.Repeat(between+line, 498)+between+"no line", fmt.Sprintf("line %d\n", 1+499*len(between)))
		}
	}
	expectNoScript(t, strings.Repeat("x\n", 501))
	expectNoScript(t, "x\n"+scriptHead+strings.Repeat("\nopen", 10))
}

// An empty line isn't read, but it has its number.
func TestBadLineIsTold(t *testing.T) {
	for _, row := range []struct{ script, want string }{
		{scriptHead + "\nopens", "line 2\n"},
		{scriptHead + "\n\n\nopens\n\n", "line 4\n"},
		{"\n\n" + scriptHead + "\n\n\nopens\n", "line 6\n"},
		{scriptHead + "\nopen\ntick 1\n\nticks 1\ntick 1\n", "line 5\n"},
		{scriptHead + "\nopen\nbad\nworse\n", "line 3\n"},
		{scriptHead + "\nopen\nbad\nopen\nworse\n\n", "line 3\n"},
		{scriptHead + "\nbad\n" + scriptHead + "\n", "line 2\n"},
		{scriptHead + "\n" + scriptHead + "\nbad\n", "line 2\n"},
		{scriptHead + "\nopen\n" + scriptHead, "line 3\n"},
		{scriptHead + "\n \n", "line 2\n"},
		{scriptHead + "\n\r\n", "line 2\n"},
		{scriptHead + "\nopen\r\nopen\r\n", "line 2\n"},
		{scriptHead + strings.Repeat("\nopen", 98) + "\nbad\nopen", "line 100\n"},
		{strings.Repeat("\n", 19000) + scriptHead + "\nbad", "line 19002\n"},
	} {
		expectScript(t, row.script, row.want)
	}
}

// All lines are read first, so that a bad line at the end is told alone.
func TestBadLineBehindEveryKindOfLine(t *testing.T) {
	lines := eachLine()
	whole := scriptHead + "\n" + strings.Join(lines, "\n")
	for i := range lines {
		behind := slices.Insert(slices.Clone(lines), i, "bad")
		want := fmt.Sprintf("line %d\n", i+2)
		expectScript(t, scriptHead+"\n"+strings.Join(behind, "\n"), want)
		behind = append(behind, "worse", "", "worst 1")
		expectScript(t, scriptHead+"\n"+strings.Join(behind, "\n")+"\n", want)
	}
	expectScript(t, whole+"\nbad", fmt.Sprintf("line %d\n", len(lines)+2))
	if got := impl.RunScript(whole); !strings.HasPrefix(got, "open 0\ncrash\ncrash\ncrash\nreply 04\n") {
		t.Errorf("%q", got)
	}
}

func TestKeywordsAreJustThose(t *testing.T) {
	for _, line := range eachLine() {
		keyword, fields, _ := strings.Cut(line, " ")
		if fields != "" {
			fields = " " + fields
		}
		for _, other := range []string{
			"", strings.ToUpper(keyword), strings.ToUpper(keyword[:1]) + keyword[1:], keyword + "s", keyword[:len(keyword)-1], keyword + keyword, "-" + keyword, keyword + "\x00", "\t" + keyword, keyword + "\t", keyword + "\r",
			fmt.Sprintf("%%%02X", keyword[0]) + keyword[1:], keyword + "=", keyword + ",", "é", "\xff", "config", "line", "reply", "files", "name", "-", "%", "0", "close", "samples", "snapshot",
		} {
			if other+fields != "" {
				expectBadLine(t, other+fields)
			}
		}
	}
}

// The answer hangs on the script alone, whatever was run before or runs beside it.
func TestScriptsBesideEachOther(t *testing.T) {
	var scripts, want []string
	for seed := range 60 {
		r := dice(seed)
		scripts = append(scripts, r.scriptText(40))
		want = append(want, impl.RunScript(scripts[seed]))
	}
	got := make([]string, len(scripts))
	ended := make(chan bool)
	for i := range scripts {
		go func() {
			got[i] = impl.RunScript(scripts[i])
			ended <- true
		}()
	}
	for range scripts {
		<-ended
	}
	if !slices.Equal(got, want) {
		t.Errorf("%.500q, not %.500q", got, want)
	}
}
