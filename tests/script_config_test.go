package tests

import (
	"fmt"
	"strings"
	"testing"

	"loop.example/s02176/impl"
)

func configLine(numbers ...int) string {
	line := "config"
	for _, n := range numbers {
		line += fmt.Sprint(" ", n)
	}
	return line
}

func expectConfig(t *testing.T, line string, want impl.Config, room int) {
	t.Helper()
	if c, got, ok := impl.ParseConfig(line); c != want || got != room || !ok {
		t.Errorf("%.200q: %+v, %d, %v", line, c, got, ok)
	}
}

// expectNumbers asks for a config of these seven numbers, by itself and ahead of a script.
func expectNumbers(t *testing.T, n []int) {
	t.Helper()
	want := impl.Config{Window: n[0], TenantLimit: n[1], MetricLimit: n[2], Shards: n[3], Hash: n[4], Segment: n[5]}
	expectConfig(t, configLine(n...), want, n[6])
	expectScript(t, configLine(n...), noneDone+"\n")
	expectScript(t, configLine(n...)+"\nopen\n", "open 0\nfiles 1 bytes 0 lsn 0\n")
}

func expectNoConfig(t *testing.T, line string) {
	t.Helper()
	if c, room, ok := impl.ParseConfig(line); c != (impl.Config{}) || room != 0 || ok {
		t.Errorf("%.200q: %+v, %d, %v", line, c, room, ok)
	}
	if line == "" || strings.Contains(line, "\n") {
		return
	}
	for _, script := range []string{line, line + "\n", "\n\n" + line + "\nopen\n", line + "\n" + scriptHead + "\n", line + "\nno line\n"} {
		expectNoScript(t, script)
	}
}

// configEdges are the least and the greatest of each number of a config line.
func configEdges() [][2]int {
	return [][2]int{{1, 1000000000}, {0, 1000000}, {0, 1000000}, {1, 64}, {0, 2}, {100, 1000000}, {0, 1000000000}}
}

func TestConfigLineHasItsNumbersInOrder(t *testing.T) {
	expectNumbers(t, []int{5, 3, 2, 4, 1, 200, 3000})
	expectNumbers(t, []int{100, 101, 102, 63, 2, 104, 105})
	for seed := range 200 {
		r := dice(seed)
		var n []int
		for _, e := range configEdges() {
			n = append(n, e[0]+r.below(e[1]-e[0]+1))
		}
		expectNumbers(t, n)
	}
}

func TestConfigLineAtItsEdges(t *testing.T) {
	var least, greatest []int
	for i, e := range configEdges() {
		least, greatest = append(least, e[0]), append(greatest, e[1])
		for _, at := range e {
			n := []int{5, 3, 2, 4, 1, 200, 3000}
			n[i] = at
			expectNumbers(t, n)
		}
		for _, beyond := range []int{e[0] - 1, e[1] + 1, 9999999999999, -e[1]} {
			n := []int{5, 3, 2, 4, 1, 200, 3000}
			n[i] = beyond
			expectNoConfig(t, configLine(n...))
		}
	}
	expectNumbers(t, least)
	expectNumbers(t, greatest)
}

func TestConfigLineOfAnotherForm(t *testing.T) {
	for _, line := range []string{
		"", " ", "\n", "config", "config ", "config\n", "config 5 3 2 4 1 200", "config 5 3 2 4 1 200 ", "config 5 3 2 4 1 200 3000 1", "config 5 3 2 4 1 200 3000 0",
		"config 5 3 2 4 1 200 3000 ", " config 5 3 2 4 1 200 3000", "config  5 3 2 4 1 200 3000", "config 5 3  2 4 1 200 3000", "config 5 3 2 4 1 200  3000",
		"Config 5 3 2 4 1 200 3000", "CONFIG 5 3 2 4 1 200 3000", "confi 5 3 2 4 1 200 3000", "configs 5 3 2 4 1 200 3000", "5 3 2 4 1 200 3000", " 5 3 2 4 1 200 3000",
		"open", "open 5 3 2 4 1 200 3000", "%63onfig 5 3 2 4 1 200 3000", "config\t5 3 2 4 1 200 3000", "config,5,3,2,4,1,200,3000",
		"config 5 3 2 4 1 200 3000\n", "\nconfig 5 3 2 4 1 200 3000", "config 5 3 2 4 1 200 3000\r", "config 5 3 2 4 1 200 3000\nopen", "config 5 3 2 4 1 200 3000\x00",
		"config 3 5 200 1 4 2 3000", "config a b c d e f g", "config - - - - - - -", strings.Repeat(" ", 30000), "config" + strings.Repeat(" 1", 30000), strings.Repeat("config", 9000),
	} {
		expectNoConfig(t, line)
	}
}

// notNumbers are fields that aren't numbers, whatever stands around them; the empty one is a field too.
func notNumbers() []string {
	return []string{
		"", "00", "01", "005", "0000000000000", "+1", "-0", "-2", "-5", "--1", "1-", "-", "a", "5a", "a5", "0x5", "5.", "5.0", "5e0", "1_0", "_5", "%35", "５", "\xb5", "5\x00", "5\t", "5\r",
		"12345678901234", "10000000000000", "00000000000005", "18446744073709551616", "18446744073709551621", "36893488147419103237", "9223372036854775808", "99999999999999999999999",
		strings.Repeat("9", 3000), "5,", "5=5", "'", "/", ":", "0:", "5/",
	}
}

func TestConfigLineWithWhatIsNoNumber(t *testing.T) {
	good := strings.Split("5 3 2 4 1 200 3000", " ")
	for i := range good {
		for _, bad := range append(notNumbers(), "-1") {
			fields := append([]string{"config"}, good...)
			fields[1+i] = bad
			expectNoConfig(t, strings.Join(fields, " "))
		}
	}
}

func TestConfigIsThatOfTheScript(t *testing.T) {
	lines := "\nopen\nwrite a __name__=up,n=1 __name__=up,n=2 __name__=up,n=3 __name__=cpu\ntick 1\ntick 1\ncount a -\ncount a up"
	for _, row := range []struct{ config, want string }{
		{"config 9 9 9 1 0 500 9000", "reply 00000402020202\nreply 00\nreply 00\nreply 0000000000000000040000000000000009\nreply 0000000000000000030000000000000009\nfiles 1 bytes 202 lsn 3"},
		{"config 2 9 9 1 0 500 9000", "reply 00000402020202\nreply 00\nreply 00\nreply 0000000000000000000000000000000009\nreply 0000000000000000000000000000000009\nfiles 1 bytes 202 lsn 3"},
		{"config 9 2 9 1 0 500 9000", "reply 00000402020303\nreply 00\nreply 00\nreply 0000000000000000020000000000000002\nreply 0000000000000000020000000000000009\nfiles 1 bytes 142 lsn 3"},
		{"config 9 9 1 1 0 500 9000", "reply 00000402040402\nreply 00\nreply 00\nreply 0000000000000000020000000000000009\nreply 0000000000000000010000000000000001\nfiles 1 bytes 138 lsn 3"},
		{"config 9 9 9 7 2 500 9000", "reply 00000402020202\nreply 00\nreply 00\nreply 0000000000000000040000000000000009\nreply 0000000000000000030000000000000009\nfiles 1 bytes 202 lsn 3"},
		{"config 9 9 9 1 0 201 9000", "reply 00000402020202\nreply 00\nreply 00\nreply 0000000000000000040000000000000009\nreply 0000000000000000030000000000000009\nfiles 2 bytes 202 lsn 3"},
		{"config 9 9 9 1 0 500 201", "reply 00000402020202\nreply 00\nreply 03\nreply 0000000000000000040000000000000009\nreply 0000000000000000030000000000000009\nfiles 1 bytes 172 lsn 2"},
		{"config 9 9 9 1 0 500 141", "reply 03\nreply 03\nreply 03\nreply 0000000000000000000000000000000009\nreply 0000000000000000000000000000000009\nfiles 1 bytes 0 lsn 0"},
	} {
		expectScript(t, row.config+lines, "open 0\n"+row.want+"\n")
	}
}
