package tests

import (
	"fmt"
	"strings"
	"testing"

	"loop.example/s02176/impl"
)

// requestLines has a line of every kind of request.
func requestLines() []string {
	return []string{
		"write a __name__=up", "write - b=c", "tick 1", "tick 0", "limit a - 1", "limit A - -1", "checkpoint", "count a -", "count a up", "dump a", "dump -", "ask 04", "ask 00", "ask 060161", "dump " + strings.Repeat("a", 256),
	}
}

func repeated(line string, n int) string { return strings.Repeat(line+"\n", n) }

func TestRequestsToANodeThatIsNotUp(t *testing.T) {
	lines := requestLines()
	all, downs := strings.Join(lines, "\n"), repeated("reply 04", len(lines))
	for _, row := range []struct{ ahead, told, left string }{
		{"", "", "files 0 bytes 0 lsn 0"},
		{"crash\n", "crash\n", "files 0 bytes 0 lsn 0"},
		{"open\ncrash\n", "open 0\ncrash\n", "files 1 bytes 0 lsn 0"},
		{"open\ntick 1\ncrash\n", "open 0\nreply 00\ncrash\n", "files 1 bytes 30 lsn 0"},
		{"fail 1\nopen\n", "open 2\n", "files 0 bytes 0 lsn 0"},
		{"arm 1\nopen\n", "open 1\n", "files 0 bytes 0 lsn 0"},
		{"open\narm 1\ntick 1\n", "open 0\nreply 04\n", "files 1 bytes 0 lsn 0"},
		{"open\ntick 1\narm 2\ntick 1\n", "open 0\nreply 00\nreply 04\n", "files 1 bytes 60 lsn 1"},
		{"open\ntick 1\narm 2\ntick 1\nopen\n", "open 0\nreply 00\nreply 04\nopen 1\n", "files 1 bytes 60 lsn 0"},
		{"open\ntick 1\narm 2\ntick 1\ncrash 9\n", "open 0\nreply 00\nreply 04\ncrash\n", "files 1 bytes 39 lsn 0"},
		{"open\ntick 1\narm 2\ntick 1\ncrash 9\nfail 1\nopen\n", "open 0\nreply 00\nreply 04\ncrash\nopen 2\n", "files 1 bytes 39 lsn 0"},
	} {
		expectRun(t, row.ahead+all, row.told+downs+row.left)
	}
}

// A node that failed, but is Up, still answers what changes nothing, and so does one on a disk without room.
func TestRequestsToANodeThatFailed(t *testing.T) {
	zero := "reply 0000000000000000000000000000000003\nreply 0000000000000000000000000000000002\nreply 00000000000000000000000000\nreply 02\n"
	after := repeated("reply 03", 7) + zero + "reply 03\nreply 01\nreply 00000000000000000000000000\nreply 01\n"
	all := strings.Join(requestLines(), "\n")
	expectRun(t, "open\nfail 1\ntick 1\n"+all, "open 0\nreply 03\n"+after+"files 1 bytes 0 lsn 0")
	expectRun(t, "open\nfail 2\ntick 1\n"+all, "open 0\nreply 03\n"+after+"files 1 bytes 30 lsn 0")
	expectRun(t, "open\ncap 29\ntick 1\ncap 3000\n"+all, "open 0\nreply 03\n"+after+"files 1 bytes 0 lsn 0")
	expectRun(t, "open\nfail 3\ncheckpoint\n"+all, "open 0\nreply 03\n"+after+"files 2 bytes 28 lsn 0")
	expectRun(t, "open\nfail 1\ntick 1\nopen\ntick 1", "open 0\nreply 03\nopen 0\nreply 00\nfiles 1 bytes 30 lsn 1")
}

func TestRequestsOneByOne(t *testing.T) {
	one := hexed(dumpReply(0, seenAt(0, handKey(metric("up")))))
	expectRun(t, "open\n"+strings.Join(requestLines(), "\n"), "open 0\nreply 00000102\nreply 02\nreply 00\nreply 02\nreply 00\nreply 02\nreply 00\n"+
		"reply 0000000000000000010000000000000001\nreply 0000000000000000010000000000000002\nreply 00000000000000000100000001"+one[26:]+"\nreply 02\nreply 00\nreply 01\nreply 00000000000000000100000001"+one[26:]+"\nreply 01\nfiles 2 bytes 70 lsn 3")
}

// What a line of words asks, an ask of its bytes asks too.
func TestLinesAndAsksAreTheSame(t *testing.T) {
	sample := sampleOf(0, lab("zone", " "), metric("up"))
	for _, row := range []struct {
		line    string
		request impl.Request
	}{
		{"write a zone=%20,__name__=up", writeReq("a", sample)},
		{"write a zone=%20,__name__=up zone=%20,__name__=up b=-", writeReq("a", sample, sample, sampleOf(0, lab("b", "")))},
		{"write %FF -=-", writeReq("\xff", sampleOf(0, lab("", "")))},
		{"tick 1", tickReq(1)}, {"tick 9999999999999", tickReq(9999999999999)},
		{"limit a - -1", limitReq("a", "", -1)}, {"limit a up 17", limitReq("a", "up", 17)}, {"limit - %00 17", limitReq("", "\x00", 17)},
		{"checkpoint", checkpointReq()}, {"count a -", countReq("a", "")}, {"count a %C3%A9", countReq("a", "é")}, {"dump a", dumpReq("a")}, {"dump %0A", dumpReq("\n")},
	} {
		ask := "ask " + hexed(handRequest(row.request))
		for _, around := range []string{"@", "open\n@\ncount a -\ncount a up\ndump a", "open\nlimit a - 1\n@\ncheckpoint\n@\ndump a", "open\nfail 2\n@\n@\ncrash 99\nopen\n@\ndump a", "open\narm 1\n@\n@"} {
			want := impl.RunScript(scriptHead + "\n" + strings.ReplaceAll(around, "@", ask))
			expectScript(t, scriptHead+"\n"+strings.ReplaceAll(around, "@", row.line), want)
		}
	}
}

// A request that has no bytes is malformed, whatever it is about.
func TestRequestsWithoutBytes(t *testing.T) {
	long := strings.Repeat("x", 256)
	many := strings.Repeat(" a=b", 500)
	labels := strings.Repeat(",a=b", 255)
	malformed := []string{
		"dump " + long, "count " + long + " -", "limit " + long + " - 1", "write " + long + " a=b", "write a " + long + "=b", "write a a=b " + long + "=b", "write a a=b" + labels, "write a" + many + " a=b", "dump " + strings.Repeat("%00", 256),
	}
	carriedOut := map[string]string{
		"dump " + long[1:]: "02", "count " + long[1:] + " -": "02", "limit " + long[1:] + " - 1": "02", "write " + long[1:] + " a=b": "02", "write a " + long[1:] + "=b": "00000129", "write a " + long[1:] + "=b a=b": "000002292E",
		"write a a=b" + labels[4:]: "00000128", "write a" + many: "0001F4" + strings.Repeat("2E", 500), "dump " + strings.Repeat("%00", 255): "02",
	}
	for _, line := range malformed {
		expectRun(t, line+"\nopen\n"+line+"\ntick 1", "reply 04\nopen 0\nreply 01\nreply 00\nfiles 1 bytes 30 lsn 1")
		expectRun(t, "open\nfail 1\ntick 1\n"+line, "open 0\nreply 03\nreply 01\nfiles 1 bytes 0 lsn 0")
	}
	for line, reply := range carriedOut {
		expectRun(t, "open\n"+line+"\ntick 1", "open 0\nreply "+reply+"\nreply 00\nfiles 1 bytes 30 lsn 1")
	}
	expectRun(t, "open\ncount a "+strings.Repeat("%00", 5000), "open 0\nreply 02\nfiles 1 bytes 0 lsn 0")
	expectRun(t, "open\nwrite a __name__=up,b="+strings.Repeat("x", 15000), "open 0\nreply 0000012B\nfiles 1 bytes 0 lsn 0")
}

// A length that is cut to its lowest byte could make another request of these, one that is carried out.
func TestRequestsWhoseLengthsWouldWrap(t *testing.T) {
	wraps := func(size int) string { return wordFor("a" + bytesOf(size, 2) + strings.Repeat("x", 254)) }
	for _, line := range []string{
		"count " + wraps(256) + " -", "count " + wraps(256+3) + " abc", "limit " + wraps(256) + " - 1", "write a __name__=up," + wraps(257) + "=c", "write a __name__=up," + wraps(256) + "=- __name__=cpu",
		"count " + wordFor("\x01\x00"+strings.Repeat("x", 254)) + " -", "limit " + wordFor("\x01\x00"+strings.Repeat("x", 254)) + " - -1",
	} {
		expectRun(t, "open\n"+line, "open 0\nreply 01\nfiles 1 bytes 0 lsn 0")
	}
}

func TestCrashKeepsSomeBytes(t *testing.T) {
	unsynced := "open\ntick 1\nfail 2\ntick 1\n"
	told := "open 0\nreply 00\nreply 03\ncrash\n"
	for _, row := range []struct {
		keep        string
		bytes, left int
	}{
		{"", 30, 30}, {" 0", 30, 30}, {" 1", 31, 30}, {" 29", 59, 30}, {" 30", 60, 60}, {" 31", 60, 60}, {" 9999999999999", 60, 60}, {" 0 30", 30, 30}, {" 30 0 0 0", 60, 60}, {" 7 7 7 7 7 7 7", 37, 30},
	} {
		expectRun(t, unsynced+"crash"+row.keep, told+fmt.Sprintf("files 1 bytes %d lsn 0", row.bytes))
		expectRun(t, unsynced+"crash"+row.keep+"\nopen", told+fmt.Sprintf("open 0\nfiles 1 bytes %d lsn %d", row.left, row.left/30))
		expectRun(t, unsynced+"crash"+row.keep+"\ncrash 99", told+fmt.Sprintf("crash\nfiles 1 bytes %d lsn 0", row.bytes))
	}
	// The first number is that of ckpt, the second that of the segment.
	second := "open\ntick 1\ncheckpoint\nfail 2\ntick 1\ncrash"
	told = "open 0\nreply 00\nreply 00\nreply 03\ncrash\n"
	expectRun(t, second+" 30", told+"files 2 bytes 28 lsn 0")
	expectRun(t, second+" 0 30", told+"files 2 bytes 58 lsn 0")
	expectRun(t, second+" 0 30\nopen", told+"open 0\nfiles 2 bytes 58 lsn 2")
	expectRun(t, second+" 30 29 30\nopen", told+"open 0\nfiles 2 bytes 28 lsn 1")
	expectRun(t, "crash 1 2 3\nopen\ncrash 1 2 3", "crash\nopen 0\ncrash\nfiles 1 bytes 0 lsn 0")
}

func TestOpenOfAnOpenNode(t *testing.T) {
	expectRun(t, "open\ntick 1\nopen\nopen\ntick 1\ndump a\nopen", "open 0\nreply 00\nopen 0\nopen 0\nreply 00\nreply 00000000000000000200000000\nopen 0\nfiles 1 bytes 60 lsn 2")
	expectRun(t, "open\nwrite a __name__=up\ntick 1\ncheckpoint\ntick 3\ncrash\nopen\ncount a up\ntick 1\ncrash\nopen\ncount a up",
		"open 0\nreply 00000102\nreply 00\nreply 00\nreply 00\ncrash\nopen 0\nreply 0000000000000000010000000000000002\nreply 00\ncrash\nopen 0\nreply 0000000000000000000000000000000002\nfiles 2 bytes 130 lsn 4")
}

// stopped is what a change leaves if the disk stops at its Nth operation, from the first to one behind the last.
type stopped struct {
	ahead, told string // what comes ahead, and what that writes
	line        string
	left        []string
	segment     int
}

func stops() []stopped {
	return []stopped{
		{"", "", "open", []string{"files 0 bytes 0 lsn 0", "files 1 bytes 0 lsn 0"}, 500},
		{"open\n", "open 0\n", "open", []string{"files 1 bytes 0 lsn 0"}, 500},
		{"open\nfail 2\ntick 1\nfail 0\n", "open 0\nreply 03\n", "open", []string{"files 1 bytes 30 lsn 0", "files 1 bytes 30 lsn 1"}, 500},
		{"open\narm 2\ntick 1\ncrash 29\n", "open 0\nreply 04\ncrash\n", "open", []string{"files 1 bytes 29 lsn 0", "files 1 bytes 0 lsn 0"}, 500},
		{"open\narm 3\ncheckpoint\ncrash 9\n", "open 0\nreply 04\ncrash\n", "open", []string{"files 2 bytes 9 lsn 0", "files 1 bytes 0 lsn 0"}, 500},
		{"open\n", "open 0\n", "tick 1", []string{"files 1 bytes 0 lsn 0", "files 1 bytes 30 lsn 0", "files 1 bytes 30 lsn 1"}, 500},
		{"open\ntick 1\n", "open 0\nreply 00\n", "tick 1", []string{"files 1 bytes 30 lsn 1", "files 1 bytes 60 lsn 1", "files 1 bytes 60 lsn 2"}, 500},
		{"open\ntick 1\ntick 1\ntick 1\n", "open 0\nreply 00\nreply 00\nreply 00\n", "tick 1", []string{"files 1 bytes 90 lsn 3", "files 2 bytes 90 lsn 3", "files 2 bytes 120 lsn 3", "files 2 bytes 120 lsn 4"}, 100},
		{"open\n", "open 0\n", "limit a - 7", []string{"files 1 bytes 0 lsn 0", "files 1 bytes 31 lsn 0", "files 1 bytes 31 lsn 1"}, 500},
		{"open\n", "open 0\n", "write a __name__=up", []string{"files 1 bytes 0 lsn 0", "files 1 bytes 45 lsn 0", "files 1 bytes 45 lsn 1"}, 500},
		{"open\ntick 1\n", "open 0\nreply 00\n", "checkpoint", []string{
			"files 1 bytes 30 lsn 1", "files 2 bytes 30 lsn 1", "files 2 bytes 58 lsn 1", "files 2 bytes 58 lsn 1", "files 2 bytes 58 lsn 1", "files 3 bytes 58 lsn 1", "files 2 bytes 28 lsn 1",
		}, 500},
		{"open\n", "open 0\n", "ask 04", []string{
			"files 1 bytes 0 lsn 0", "files 2 bytes 0 lsn 0", "files 2 bytes 28 lsn 0", "files 2 bytes 28 lsn 0", "files 2 bytes 28 lsn 0", "files 3 bytes 28 lsn 0", "files 2 bytes 28 lsn 0",
		}, 500},
		{"open\n", "open 0\n", "count a -", []string{"files 1 bytes 0 lsn 0"}, 500},
		{"open\n", "open 0\n", "dump a", []string{"files 1 bytes 0 lsn 0"}, 500},
		{"open\n", "open 0\n", "tick 0", []string{"files 1 bytes 0 lsn 0"}, 500},
		{"open\n", "open 0\n", "write a b=c", []string{"files 1 bytes 0 lsn 0"}, 500},
	}
}

// doneReply is what a line of stops writes where nothing stops it.
func doneReply(line string) string {
	replies := map[string]string{
		"open": "open 0", "write a __name__=up": "reply 00000102", "write a b=c": "reply 0000012E", "count a -": "reply 0000000000000000000000000000000003", "dump a": "reply 00000000000000000000000000", "tick 0": "reply 02",
	}
	if reply, other := replies[line]; other {
		return reply
	}
	return "reply 00"
}

func TestArmAndFailAtEachOperation(t *testing.T) {
	for _, s := range stops() {
		last := len(s.left)
		for i, left := range s.left {
			crashed, failed := "reply 04", "reply 03"
			switch {
			case i+1 == last:
				crashed, failed = doneReply(s.line), doneReply(s.line)
			case s.line == "open":
				crashed, failed = "open 1", "open 2"
			}
			expectRunOn(t, s.segment, 3000, fmt.Sprintf("%sarm %d\n%s", s.ahead, i+1, s.line), s.told+crashed+"\n"+left)
			expectRunOn(t, s.segment, 3000, fmt.Sprintf("%sfail %d\n%s", s.ahead, i+1, s.line), s.told+failed+"\n"+left)
			expectRunOn(t, s.segment, 3000, fmt.Sprintf("%sfail %d\narm %d\n%s", s.ahead, i+1, i+1, s.line), s.told+crashed+"\n"+left)
			expectRunOn(t, s.segment, 3000, fmt.Sprintf("%sarm %d\nfail %d\n%s", s.ahead, i+2, i+1, s.line), s.told+failed+"\n"+left)
			for _, off := range []string{"arm %d\narm 0\n", "fail %d\nfail 0\n", "fail %d\narm 0\nfail 0\n"} {
				expectRunOn(t, s.segment, 3000, s.ahead+fmt.Sprintf(off, i+1)+s.line, s.told+doneReply(s.line)+"\n"+s.left[last-1])
			}
		}
	}
}

func TestArmCountsFromNow(t *testing.T) {
	expectRun(t, "arm 4\nopen\ntick 1\ntick 1\ntick 1", "open 0\nreply 00\nreply 04\nreply 04\nfiles 1 bytes 30 lsn 1")
	expectRun(t, "open\ntick 1\narm 4\ntick 1\ntick 1\ntick 1", "open 0\nreply 00\nreply 00\nreply 04\nreply 04\nfiles 1 bytes 90 lsn 2")
	expectRun(t, "open\narm 1\narm 3\ntick 1\ntick 1", "open 0\nreply 00\nreply 04\nfiles 1 bytes 30 lsn 1")
	expectRun(t, "open\nfail 1\nfail 3\ntick 1\ntick 1", "open 0\nreply 00\nreply 03\nfiles 1 bytes 30 lsn 1")
	expectRun(t, "open\narm 3\ntick 1\narm 3\ntick 1\narm 3\ntick 1\ntick 1", "open 0\nreply 00\nreply 00\nreply 00\nreply 04\nfiles 1 bytes 90 lsn 3")
	expectRun(t, "open\nfail 3\ntick 1\nopen\ntick 1\nopen\ntick 1", "open 0\nreply 00\nopen 0\nreply 03\nopen 0\nreply 00\nfiles 1 bytes 60 lsn 2")
	expectRun(t, "open\narm 9999999999999\nfail 9999999999999\ntick 1", "open 0\nreply 00\nfiles 1 bytes 30 lsn 1")
}

// A crash takes away what was armed; what is armed behind it holds for the opening.
func TestCrashDisarms(t *testing.T) {
	expectRun(t, "open\narm 3\nfail 2\ncrash\nopen\ntick 1\ntick 1", "open 0\ncrash\nopen 0\nreply 00\nreply 00\nfiles 1 bytes 60 lsn 2")
	expectRun(t, "arm 1\nopen\narm 1\nopen\ncrash\nopen", "open 1\nopen 1\ncrash\nopen 0\nfiles 1 bytes 0 lsn 0")
	expectRun(t, "crash\narm 1\nopen\ncrash\nfail 1\nopen\nopen", "crash\nopen 1\ncrash\nopen 2\nopen 0\nfiles 1 bytes 0 lsn 0")
}

func TestCapOfTheDisk(t *testing.T) {
	for _, row := range []struct{ lines, told string }{
		{"cap 0\nopen\ntick 1", "open 0\nreply 03\nfiles 1 bytes 0 lsn 0"},
		{"cap 29\nopen\ntick 1", "open 0\nreply 03\nfiles 1 bytes 0 lsn 0"},
		{"cap 30\nopen\ntick 1\ntick 1", "open 0\nreply 00\nreply 03\nfiles 1 bytes 30 lsn 1"},
		{"open\ntick 1\ncap 59\ntick 1", "open 0\nreply 00\nreply 03\nfiles 1 bytes 30 lsn 1"},
		{"open\ntick 1\ncap 60\ntick 1", "open 0\nreply 00\nreply 00\nfiles 1 bytes 60 lsn 2"},
		{"open\ntick 1\ncap 30\ntick 1", "open 0\nreply 00\nreply 03\nfiles 1 bytes 30 lsn 1"},
		{"open\ntick 1\ncap 29\ntick 1", "open 0\nreply 00\nreply 00\nfiles 1 bytes 60 lsn 2"},
		{"open\ntick 1\ncap 0\ntick 1", "open 0\nreply 00\nreply 00\nfiles 1 bytes 60 lsn 2"},
		{"open\ntick 1\ncap 30\ncap 29\ntick 1", "open 0\nreply 00\nreply 03\nfiles 1 bytes 30 lsn 1"},
		{"cap 29\ncap 1000000000\nopen\ntick 1", "open 0\nreply 00\nfiles 1 bytes 30 lsn 1"},
		{"cap 29\ncap 1000000001\nopen\ntick 1", "open 0\nreply 03\nfiles 1 bytes 0 lsn 0"},
		{"cap 29\ncap 9999999999999\nopen\ntick 1", "open 0\nreply 03\nfiles 1 bytes 0 lsn 0"},
		{"cap 29\ncap 3000\nopen\ntick 1", "open 0\nreply 00\nfiles 1 bytes 30 lsn 1"},
		{"open\ntick 1\ncap 31\ncrash\ncap 60\nopen\ntick 1\ntick 1", "open 0\nreply 00\ncrash\nopen 0\nreply 00\nreply 03\nfiles 1 bytes 60 lsn 2"},
		{"open\ntick 1\ncap 31\ncrash\nopen\ntick 1", "open 0\nreply 00\ncrash\nopen 0\nreply 03\nfiles 1 bytes 30 lsn 1"},
		{"open\ntick 1\ncap 57\ncheckpoint", "open 0\nreply 00\nreply 03\nfiles 2 bytes 30 lsn 1"},
		{"open\ntick 1\ncap 58\ncheckpoint\ntick 1\ntick 1", "open 0\nreply 00\nreply 00\nreply 00\nreply 03\nfiles 2 bytes 58 lsn 2"},
	} {
		expectRun(t, row.lines, row.told)
	}
}

// What isn't synced counts too: it is on the disk.
func TestCapWithBytesThatAreNotSynced(t *testing.T) {
	expectRun(t, "open\nfail 2\ntick 1\ncap 29\nopen\ntick 1", "open 0\nreply 03\nopen 0\nreply 00\nfiles 1 bytes 60 lsn 2")
	expectRun(t, "open\nfail 2\ntick 1\ncrash 0\ncap 29\nopen\ntick 1", "open 0\nreply 03\ncrash\nopen 0\nreply 03\nfiles 1 bytes 0 lsn 0")
	expectRun(t, "open\nfail 2\ntick 1\ncrash 20\ncap 20\nopen\ntick 1", "open 0\nreply 03\ncrash\nopen 0\nreply 03\nfiles 1 bytes 0 lsn 0")
}
