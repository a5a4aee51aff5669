package tests

import (
	"fmt"
	"strings"
	"testing"

	"loop.example/s02176/impl"
)

func TestEachKindOfLine(t *testing.T) {
	for _, line := range eachLine() {
		expectGoodLine(t, line)
	}
}

func TestLinesWithAnEmptyField(t *testing.T) {
	for _, line := range eachLine() {
		expectBadLine(t, " "+line)
		expectBadLine(t, line+" ")
		expectBadLine(t, line+"  ")
		for i := range len(line) {
			if line[i] == ' ' {
				expectBadLine(t, line[:i]+" "+line[i:])
			}
		}
	}
}

func TestLinesWithAFieldTooMany(t *testing.T) {
	for _, line := range eachLine() {
		for _, field := range []string{"x", "-", "-1", "%61", "1", "0", "AA", "b=c", "open"} {
			isMore := strings.HasPrefix(line, "crash") && (field == "1" || field == "0") || strings.HasPrefix(line, "write") && field == "b=c"
			if isMore {
				expectGoodLine(t, line+" "+field)
				continue
			}
			expectBadLine(t, line+" "+field)
		}
	}
}

func TestLinesWithAFieldTooFew(t *testing.T) {
	for _, line := range []string{
		"arm", "fail", "cap", "ask", "write", "write a", "write b=c", "write b=c b=c", "tick", "limit", "limit a", "limit a -", "limit a 1", "limit - 1", "count", "count a", "dump",
		"arm ", "fail ", "cap ", "ask ", "write ", "write a ", "tick ", "limit a - ", "count a ", "dump ", "crash ", "open ", "checkpoint ",
	} {
		expectBadLine(t, line)
	}
}

// numberPlaces has a mark at each place where a line has a number.
func numberPlaces() []string {
	return []string{"arm @", "fail @", "cap @", "tick @", "limit a - @", "crash @", "crash 1 @", "crash @ 1", "crash 1 @ 1"}
}

func TestNumbersInLines(t *testing.T) {
	for _, place := range numberPlaces() {
		for _, good := range []string{"0", "1", "9", "10", "99", "100", "1234567890123", "9999999999999", "1000000000000"} {
			expectGoodLine(t, strings.Replace(place, "@", good, 1))
		}
		for _, bad := range append(notNumbers(), "-1") {
			if bad != "-1" || !strings.HasPrefix(place, "limit") {
				expectBadLine(t, strings.Replace(place, "@", bad, 1))
			}
		}
	}
}

func TestNumbersAreTheirDigits(t *testing.T) {
	expectRun(t, "open\ntick 907\ntick 2000\ntick 1\ndump a\ntick 1234567890\ndump a",
		"open 0\nreply 00\nreply 00\nreply 00\nreply 000000000000000B5C00000000\nreply 00\nreply 000000000049960E2E00000000\nfiles 1 bytes 120 lsn 4")
	expectRun(t, "open\ntick 999999999999\ndump a\ntick 1\ndump a\ntick 1\ntick 9999999999999\ntick 0",
		"open 0\nreply 00\nreply 00000000E8D4A50FFF00000000\nreply 00\nreply 00000000E8D4A5100000000000\nreply 02\nreply 02\nreply 02\nfiles 1 bytes 60 lsn 2")
}

// wordPlaces has a mark at each place where a line has a word.
func wordPlaces() []string {
	return []string{
		"dump @", "count @ -", "count a @", "limit @ - 1", "limit a @ 1", "write @ b=c", "write a @=c", "write a b=@", "write a b=c,@=e", "write a @=c,d=e", "write a b=@,d=e", "write a b=c,d=@", "write a b=c d=@", "write a @=c d=e",
	}
}

// notWords are no words wherever they stand. Those with a , or a = are more than one word.
func notWords() []string {
	return []string{
		"", "\x00", "\x1f", "\x7f", "\x80", "\xff", "é", "a\tb", "a\x7f", "\r", "%", "%%", "a%", "%2", "a%2", "%2 ", "%g0", "%0g", "%G0", "%0G", "%:0", "%0@", "%/0", "%2d", "%c3%bf", "%C3%bf", "%-1", "%+1", "% 41", "%4\x00",
		"%4%31", "%%41", "a%41%", ",", "=", ",,", "==", "a,", ",a", "a,b", "=a", "a=", "a=b=", "-,", "-=", "a,-", "%2C,", "%3D=",
	}
}

func TestWordsThatAreNone(t *testing.T) {
	for _, place := range wordPlaces() {
		for _, bad := range notWords() {
			expectBadLine(t, strings.Replace(place, "@", bad, 1))
		}
		for _, good := range []string{"a", "-", "--", "a-", "-a", "-1", "%2D", "%00", "%FF", "%0A", "%20%25", "!", "~", "\"", "$", "&", "+", ".", "<", ">", "a%41b", "%41", "%2525", "config", "0", strings.Repeat("%FF", 900)} {
			expectGoodLine(t, strings.Replace(place, "@", good, 1))
		}
	}
}

// Each byte as it is: within a word and as a word of its own.
func TestEveryByteInAWord(t *testing.T) {
	for b := range 256 {
		at := string([]byte{byte(b)})
		plain := b >= 33 && b <= 126 && b != '%' && b != ',' && b != '='
		for _, word := range []string{at, "x" + at, at + "x", "x" + at + "x"} {
			for _, place := range wordPlaces() {
				line := strings.Replace(place, "@", word, 1)
				switch {
				case b == '\n':
				case plain:
					expectGoodLine(t, line)
				default:
					expectBadLine(t, line)
				}
			}
		}
	}
	expectScript(t, scriptHead+"\ndump x\nx", "line 3\n")
	expectScript(t, scriptHead+"\ncount x\n-", "line 2\n")
}

// toldBy is what a script answers to a sample of that value and then tells of the tenant.
func toldBy(value string) string {
	labels := list(metric("up"), lab("v", value))
	form := modelCanon(labels)
	verdict, series, left := impl.VerdictNew, []impl.Series(nil), "files 1 bytes 0 lsn 0"
	if form.code != impl.LabelsOK {
		verdict = form.code
	} else {
		key := handKey(form.form...)
		series, left = []impl.Series{seenAt(0, key)}, fmt.Sprintf("files 1 bytes %d lsn 1", 8+10+1+2+2+len(key)+8)
	}
	return "reply " + hexed(verdictsReply(verdict)) + "\nreply " + hexed(dumpReply(0, series...)) + "\n" + left
}

func TestEveryByteEscaped(t *testing.T) {
	for b := range 256 {
		escaped, text := fmt.Sprintf("%%%02X", b), string([]byte{byte(b)})
		expectRun(t, "open\nwrite a __name__=up,v="+escaped+"\ndump a", "open 0\n"+toldBy(text))
		expectRun(t, "open\nwrite a v=x"+escaped+"y,__name__=up\ndump a", "open 0\n"+toldBy("x"+text+"y"))
		expectRun(t, "open\nwrite a v="+escaped+escaped+",__name__=up\ndump a", "open 0\n"+toldBy(text+text))
		expectRun(t, "open\nwrite a v=%C3"+escaped+",__name__=up\ndump a", "open 0\n"+toldBy("\xc3"+text))
		tenant := "reply 02"
		if b >= 'a' && b <= 'z' || b >= '0' && b <= '9' || b == '-' {
			tenant = "reply 00000000000000000000000000"
		}
		expectRun(t, "open\ndump "+escaped, "open 0\n"+tenant+"\nfiles 1 bytes 0 lsn 0")
	}
}

func TestDashIsTheEmptyTextOnlyAlone(t *testing.T) {
	none := "reply 0000000000000000000000000000000003\n"
	oneUp := "reply 0000000000000000000000000000000002\n"
	expectRun(t, "open\ncount a -\ncount a %2D\ncount a --\ncount - -\ncount %2D -\ncount -- -\ncount -a- -\ncount a --a", "open 0\n"+none+oneUp+oneUp+"reply 02\n"+none+none+none+oneUp+"files 1 bytes 0 lsn 0")
	expectRun(t, "open\nlimit - - 1\nlimit %2D - 1\nlimit a %2D 7\ncount a %2D\ncount %2D -\ncount a -",
		"open 0\nreply 02\nreply 00\nreply 00\nreply 0000000000000000000000000000000007\nreply 0000000000000000000000000000000001\n"+none+"files 1 bytes 63 lsn 2")
	expectRun(t, "open\nwrite - __name__=up\nwrite a -=up\nwrite a __name__=-\nwrite a __name__=up,-=-\ndump a", "open 0\nreply 02\nreply 00000129\nreply 0000012E\nreply 00000129\nreply 00000000000000000000000000\nfiles 1 bytes 0 lsn 0")
	for _, value := range []string{"-", "", "--", "a-", "-a"} {
		expectRun(t, "open\nwrite a __name__=up,v="+wordFor(value)+"\ndump a", "open 0\n"+toldBy(value))
	}
}

func TestLimitsInLines(t *testing.T) {
	for _, bad := range []string{"-2", "-0", "--1", "-01", "-1-", "-10", "-", "- 1", "+1", "-%31", "-１", "-1.", "01"} {
		expectBadLine(t, "limit a - "+bad)
		expectBadLine(t, "limit a up "+bad)
	}
	expectBadLine(t, "limit a -1")
	count := "\ncount a -\ncount a up"
	both := func(tenant, name int) string {
		return "reply " + hexed(countReply(0, tenant)) + "\nreply " + hexed(countReply(0, name)) + "\n"
	}
	expectRun(t, "open\nlimit a - 7"+count+"\nlimit a up 0"+count+"\nlimit a - -1"+count+"\nlimit a up -1"+count+"\nlimit a up -1\nlimit a - 1000000"+count+"\nlimit a - 1000001\nlimit a - 9999999999999\nlimit a -1 5\ncount a -1",
		"open 0\nreply 00\n"+both(7, 2)+"reply 00\n"+both(7, 0)+"reply 00\n"+both(3, 0)+"reply 00\n"+both(3, 2)+"reply 00\nreply 00\n"+both(1000000, 2)+
			"reply 02\nreply 02\nreply 00\nreply "+hexed(countReply(0, 5))+"\nfiles 1 bytes 225 lsn 7")
}

func TestAskInLines(t *testing.T) {
	for _, bad := range []string{"", "0", "000", "04 04", "4", "0a", "aA", "Aa", "0g", "G0", "0x04", "%04", "-", "--", "04,", "0\x004", "04\t", "４4", "+4", " 04", ":0", "0:", "/0", "0/", "@0", "0@"} {
		expectBadLine(t, "ask "+bad)
	}
	for b := range 256 {
		reply, left := "reply 01", "files 1 bytes 0 lsn 0"
		if b == impl.AskCheckpoint {
			reply, left = "reply 00", "files 2 bytes 28 lsn 0"
		}
		expectRun(t, fmt.Sprintf("open\nask %02X", b), "open 0\n"+reply+"\n"+left)
	}
	all := ""
	for b := range 256 {
		all += fmt.Sprintf("%02X", b)
	}
	expectRun(t, "open\nask "+all, "open 0\nreply 01\nfiles 1 bytes 0 lsn 0")
	expectRun(t, "open\nask 06016100\nask 060161\nask 0601\nask 06", "open 0\nreply 01\nreply 00000000000000000000000000\nreply 01\nreply 01\nfiles 1 bytes 0 lsn 0")
	long := strings.Repeat("06", 9000)
	expectRun(t, "open\nask "+long, "open 0\nreply 01\nfiles 1 bytes 0 lsn 0")
}

// A value that isn't 0 comes by ask alone, as does a write without samples or a sample without labels.
func TestAskSaysWhatNoOtherLineCan(t *testing.T) {
	asks := func(samples ...impl.Sample) string {
		return "open\nask " + hexed(handRequest(writeReq("a", samples...)))
	}
	expectRun(t, asks(sampleOf(quietNaN, metric("up"))), "open 0\nreply 00000106\nfiles 1 bytes 0 lsn 0")
	expectRun(t, asks(sampleOf(infinity, metric("up"))), "open 0\nreply 00000102\nfiles 1 bytes 45 lsn 1")
	expectRun(t, asks(), "open 0\nreply 000000\nfiles 1 bytes 0 lsn 0")
	expectRun(t, asks(sampleOf(0)), "open 0\nreply 0000012E\nfiles 1 bytes 0 lsn 0")
	expectRun(t, "open\nask "+hexed(handRequest(limitReq("a", "", -2)))+"\nask "+hexed(handRequest(tickReq(-1))), "open 0\nreply 02\nreply 02\nfiles 1 bytes 0 lsn 0")
}

func TestWriteInLines(t *testing.T) {
	for _, bad := range []string{
		"write", "write a", "write a ", "write a b", "write a -", "write a =", "write a b=", "write a =c", "write a b=c=d", "write a b==c", "write a b=c=", "write a =b=c", "write a b=c,", "write a ,b=c", "write a b=c,,d=e", "write a ,", "write a b=c,d",
		"write a b,c=d", "write a b=c d", "write a d b=c", "write a b=c  d=e", "write a b=c, d=e", "write a b=c d=", "write a b=c =e", "write a b=c d=e=f", "write b=c d=e", "write , b=c", "write a%3D b%3Dc", "write a b=c%", "write a b=c%2", "write a b=c%2c",
	} {
		expectBadLine(t, bad)
	}
	expectRun(t, "open\nwrite a __name__=up", "open 0\nreply 00000102\nfiles 1 bytes 45 lsn 1")
	expectRun(t, "open\nwrite a __name__=up __name__=up,job=x job=x,__name__=up __name__=up,job=y __name__=cpu __name__=io job=x a=b,a=b,a=c __name__=up,a=%FF 1=a",
		"open 0\nreply 00000A0202010402032E2D2A29\nfiles 1 bytes 141 lsn 1")
	expectRun(t, "open\nwrite a __name__=up%3Dx,job=%2C,zone=%20%25\ndump a",
		"open 0\nreply 00000102\nreply "+hexed(dumpReply(0, seenAt(0, handKey(metric("up=x"), lab("job", ","), lab("zone", " %")))))+"\nfiles 1 bytes 63 lsn 1")
	expectRun(t, "open\nwrite a %5F%5Fname__=%75p,j%6Fb=x\ndump %61", "open 0\nreply 00000102\nreply "+hexed(dumpReply(0, seenAt(0, handKey(metric("up"), lab("job", "x")))))+"\nfiles 1 bytes 52 lsn 1")
	expectRun(t, "open\nwrite A __name__=up\nwrite a.b __name__=up\nwrite "+strings.Repeat("a", 33)+" __name__=up", "open 0\nreply 02\nreply 02\nreply 02\nfiles 1 bytes 0 lsn 0")
}
