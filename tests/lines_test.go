package tests

import (
	"fmt"
	"slices"
	"strings"
	"testing"

	"loop.example/hawser/impl"
)

// P95: scripts without a line. What is not ended by a newline is none.
func TestLinesOfNothing(t *testing.T) {
	for _, text := range []string{"", " ", "see", "block 1", "calm 30", "step 1 0 1", "hello", "what", "too long", "\r", "\x00", "\xff", strings.Repeat("x", 600), strings.Repeat(" ", 600)} {
		checkAnswer(t, text, freshStatus)
	}
	if got := impl.LinesRun(""); got != "1 none 1 0 own 10 10 10 locked 0 notes 0 0 0\n2 none 1 0 own 10 10 10 locked 0 notes 0 0 0\n" {
		t.Error(got)
	}
}

// P95: what follows the last newline is ignored, whatever it is.
func TestLinesBehindLastNewline(t *testing.T) {
	for _, before := range someScripts() {
		want := answer(t, before)
		for _, behind := range []string{"see", "block 1", "calm 1", "calm 31", "hello", " ", "block 2 ", "\r", "\xc3", "send 1 1 1 2 3 30"} {
			checkAnswer(t, before+behind, want)
		}
	}
	checkAnswer(t, "block 1\nblock 1", statusOf(restingOf("none", 1), restingOf("none", 0)))
	checkAnswer(t, "see\nsee", freshStatus+freshStatus)
	checkAnswer(t, "\nsee", "what\n"+freshStatus)
}

// P95, P101: an empty line has an empty first word.
func TestLinesEmpty(t *testing.T) {
	for _, n := range []int{1, 2, 3, 599, 600} {
		checkAnswer(t, strings.Repeat("\n", n), strings.Repeat("what\n", n)+freshStatus)
	}
	checkAnswer(t, strings.Repeat("\n", 601), "too long\n")
	status := statusOf(restingOf("none", 1), restingOf("none", 0))
	checkAnswer(t, "\nblock 1\n\nsee\n\n", "what\nwhat\n"+status+"what\n"+status)
}

// P95, P101: 600 bytes and one more.
func TestLinesTooLong(t *testing.T) {
	blocks := strings.Repeat("block 1\n", 75)
	checkAnswer(t, blocks, statusOf(restingOf("none", 75), restingOf("none", 0)))
	checkAnswer(t, blocks[:len(blocks)-1], statusOf(restingOf("none", 74), restingOf("none", 0)))
	checkAnswer(t, strings.Repeat("see\n", 150), strings.Repeat(freshStatus, 151))
	checkAnswer(t, strings.Repeat("x", 599)+"\n", "what\n"+freshStatus)
	checkAnswer(t, strings.Repeat(" ", 599)+"\n", "what\n"+freshStatus)
	checkAnswer(t, "see"+strings.Repeat(" ", 596)+"\n", freshStatus+freshStatus)
	checkAnswer(t, "block 1"+strings.Repeat(" 1", 296)+"\n", statusOf(restingOf("none", 1), restingOf("none", 0)))
	checkAnswer(t, "see\n"+strings.Repeat("x", 596), freshStatus+freshStatus)
	for _, text := range []string{
		blocks + "\n", blocks + "x", "\n" + blocks, strings.Repeat("x", 600) + "\n", strings.Repeat("x", 601), strings.Repeat(" ", 601),
		"see" + strings.Repeat(" ", 597) + "\n", "see\n" + strings.Repeat("x", 597), strings.Repeat("see\n", 151), strings.Repeat("\x00", 601), strings.Repeat("calm 30\n", 100000),
	} {
		checkAnswer(t, text, "too long\n")
	}
}

// P101: bytes are counted, not characters.
func TestLinesBytesCount(t *testing.T) {
	for _, character := range []string{"é", "水", "𐍈"} {
		n := 599 / len(character)
		rest := strings.Repeat("x", 599-n*len(character))
		checkAnswer(t, strings.Repeat(character, n)+rest+"\n", "what\n"+freshStatus)
		checkAnswer(t, strings.Repeat(character, n)+rest+"x\n", "too long\n")
		checkAnswer(t, strings.Repeat(character, n+1)+"\n", "too long\n")
	}
}

// P101: the lines of the document's table and what they print, one by one.
func TestLinesOneByOne(t *testing.T) {
	initiated := restingOf("init", 0)
	for _, x := range []struct{ text, want string }{
		{"see\n", freshStatus + freshStatus},
		{"what\n", "what\n" + freshStatus},
		{"block 1\n", statusOf(restingOf("none", 1), restingOf("none", 0))},
		{"block 2\n", statusOf(restingOf("none", 0), restingOf("none", 1))},
		{"block 3\n", freshStatus},
		{"calm 2\n", statusOf(restingOf("none", 2), restingOf("none", 2))},
		{"calm 31\n", "what\n" + freshStatus},
		{"step 1 0 1\n", statusOf(initiated, restingOf("none", 0))},
		{"step 2 0 1\n", statusOf(restingOf("none", 0), initiated)},
		{"step 1 0 1\nsee\nstep 1 0 1\n", statusOf(initiated, restingOf("none", 0)) + statusOf(initiated, restingOf("none", 0))},
		{"know 1 1\nsend 1 1 1 1 1 30\nget 1 1 1 1 1 1 1 30 1\ntell 1 1 1\nlate 1 1 1\nstep 1 1 2\n", freshStatus},
		{openScript, statusOf(restingOf("open", 3), restingOf("open", 3))},
	} {
		checkAnswer(t, x.text, x.want)
	}
}

// General rules: bytes that are no text, in place of a first word, of a number and of a blank, and around them.
func TestLinesOfAnyBytes(t *testing.T) {
	for n := range 256 {
		if n == ' ' || n == '\n' {
			continue
		}
		b := string([]byte{byte(n)})
		for _, line := range []string{b, b + b, b + "see", "see" + b, "s" + b + "ee", "block" + b + "1", b + " block 1", "calm" + b + "1"} {
			checkAnswer(t, line+"\n", "what\n"+freshStatus)
		}
		blocked := [2]int{}
		if n == '1' || n == '2' {
			blocked[n-'1']++
		}
		checkAnswer(t, "block "+b+"\n", statusOf(restingOf("none", blocked[0]), restingOf("none", blocked[1])))
		if n < '0' || n > '9' {
			checkAnswer(t, "block 1"+b+"\nblock "+b+"1\nblock 1 "+b+"\n", statusOf(restingOf("none", 1), restingOf("none", 0)))
			checkAnswer(t, "calm 1"+b+"\ncalm "+b+"1\n", "what\nwhat\n"+freshStatus)
		}
	}
	for _, text := range []string{"\xff\xfe\n", "\xc3\x28\n", "\xed\xa0\x80\n", "\xf4\x90\x80\x80\n", "\u2028\n", "\ufeffsee\n", "see\u00a0\n", "block\u00a01\n", "\x00\x00\n"} {
		checkAnswer(t, text, "what\n"+freshStatus)
	}
}

// nearlyCommands are first words that are nearly a command.
func nearlyCommands() []string {
	out := []string{"", "move", "what", "too", "none", "init", "try", "open", "flush", "own", "1", "2", "blocks", "knows", "sent", "got", "told", "settle", "lately", "saw", "sea", "quit", "-see", "#", "EvBlock"}
	for _, word := range []string{"block", "know", "send", "get", "tell", "late", "step", "calm", "see"} {
		for i := range word {
			out = append(out, word[:i], word[i+1:], word[:i]+strings.ToUpper(word[i:i+1])+word[i+1:], word[:i]+word[i:i+1]+word[i:])
		}
		out = append(out, strings.ToUpper(word), word+word, "\t"+word, word+"\t", word+"\r", word+"\x00", word+",", word+"1", word+"\t1")
	}
	return out
}

// P101: a line with another first word prints "what" and changes nothing, whatever follows.
func TestLinesOtherFirstWords(t *testing.T) {
	words := nearlyCommands()
	for i, word := range words {
		for _, rest := range []string{"", " ", " 1", " 1 0 1", " 1 1 1 2 3 30", " 2 4 1 1 1 2 3 30 1"} {
			before := []string{"", openScript, busyScript}[i%3]
			ahead, status := parts(t, before)
			checkAnswer(t, before+word+rest+"\n", ahead+"what\n"+status)
		}
	}
	for _, before := range someScripts() {
		for _, line := range []string{"", " ", "hello", "Block 1", "move 1 1 1 2 3", " see", "step1 0 1", "\tcalm 1"} {
			checkIdle(t, before, line, "what\n")
		}
	}
}

// P101: a blank ahead of a command makes its first word empty.
func TestLinesLeadingBlanks(t *testing.T) {
	for _, x := range possibles() {
		for _, blanks := range []string{" ", "  ", "   "} {
			checkIdle(t, x.before, blanks+x.line(), "what\n")
		}
	}
	checkIdle(t, busyScript, " see", "what\n")
}

// General rules: two blanks have an empty word between them.
func TestLinesDoubleBlanks(t *testing.T) {
	for _, x := range possibles() {
		printed := ""
		if x.words[0] == "calm" {
			printed = "what\n"
		}
		for i := 1; i < len(x.words); i++ {
			line := strings.Join(x.words[:i], " ") + "  " + strings.Join(x.words[i:], " ")
			if line != "step 2  1 2" {
				checkIdle(t, x.before, line, printed)
			}
		}
	}
	checkSame(t, script("step 1 0 1", "block 1", "know 2 1"), "step 2  1 2", "step 2 0 1")
	checkSame(t, "", "step 1  1", "step 1 0 1")
	checkSame(t, openScript, "step 2  5", "step 2 0 5")
}

// General rules: a blank behind a line adds an empty word, which only a packet cannot have behind it.
func TestLinesTrailingBlanks(t *testing.T) {
	for _, x := range possibles() {
		for _, blanks := range []string{" ", "  ", "      "} {
			if x.words[0] == "get" {
				checkIdle(t, x.before, x.line()+blanks, "")
			} else {
				checkSame(t, x.before, x.line()+blanks, x.line())
			}
		}
	}
	for _, blanks := range []string{" ", "  ", "      "} {
		checkAnswer(t, "see"+blanks+"\n", freshStatus+freshStatus)
	}
}

// P101: missing words are empty.
func TestLinesMissingWords(t *testing.T) {
	for _, x := range possibles() {
		for n := 1; n < len(x.words); n++ {
			line, printed := strings.Join(x.words[:n], " "), ""
			if x.words[0] == "calm" {
				printed = "what\n"
			}
			checkIdle(t, x.before, line, printed)
			checkIdle(t, x.before, line+" ", printed)
		}
	}
	for _, before := range someScripts() {
		for _, line := range []string{"block", "know", "send", "get", "tell", "late", "step", "send 1 1 1 2 3", "get 2 4", "step 1 0", "step 1"} {
			checkIdle(t, before, line, "")
		}
		checkIdle(t, before, "calm", "what\n")
	}
}

// General rules: additional words are ignored, also those that would do something by themselves; only a packet cannot have any behind it.
func TestLinesAdditionalWords(t *testing.T) {
	for _, x := range possibles() {
		for _, more := range []string{" x", " 0", " 1", " 99", "  1", " see", " block 1", " 1 2 3 4 5 6 7 8 9 10", " \xff"} {
			if x.words[0] == "get" {
				checkIdle(t, x.before, x.line()+more, "")
			} else {
				checkSame(t, x.before, x.line()+more, x.line())
			}
		}
	}
	for _, more := range []string{" x", " 1", " see", " calm 31", "  "} {
		checkAnswer(t, "see"+more+"\n", freshStatus+freshStatus)
	}
}

// numberPlaces calls a function with each word of a line that is a number.
func numberPlaces(each func(x possible, i int)) {
	for _, x := range possibles() {
		for i, word := range x.words {
			if i > 0 && wantNumber(word) >= 0 {
				each(x, i)
			}
		}
	}
}

// ignoresHeight says whether a word is the height of a step that needs none.
func ignoresHeight(x possible, i int) bool {
	return x.words[0] == "step" && i == 2 && (x.words[3] == "1" || x.words[3] == "5")
}

// General rules: a number is one digit or two, also with a leading zero.
func TestLinesNumbers(t *testing.T) {
	short, long := 0, 0
	numberPlaces(func(x possible, i int) {
		if len(x.words[i]) == 1 {
			checkSame(t, x.before, x.replaced(i, "0"+x.words[i]), x.line())
			short++
		} else {
			checkEffect(t, x.before, x.line())
			long++
		}
	})
	if short < 20 || long < 5 {
		t.Error("too few cases", short, long)
	}
	checkAnswer(t, "step 01 00 01\ncalm 03\nsend 01 01 01 02 03 09\n", answer(t, "step 1 0 1\ncalm 3\nsend 1 1 1 2 3 9\n"))
}

// P101: any other word counts as -1, which is possible nowhere: neither a user nor nobody, and no number of rounds.
func TestLinesNoNumbers(t *testing.T) {
	numberPlaces(func(x possible, i int) {
		n := x.words[i]
		printed := ""
		if x.words[0] == "calm" {
			printed = "what\n"
		}
		for _, word := range []string{
			"", "-1", "-" + n, "+" + n, "00" + n, "000", "100", n + "x", "x" + n, "x", "O", "l", n + ".", n + "\t", "\t" + n, n + "\r", "0x" + n, n + "_", "_" + n, "1_0", n + "\x00",
			"٣", "１", "²", "½", "1e0", "1/", "/1", ":", "1:", ":1", "/", "99999999999999999999", "18446744073709551617", "4294967297",
		} {
			if !ignoresHeight(x, i) {
				checkIdle(t, x.before, x.replaced(i, word), printed)
			} else {
				checkSame(t, x.before, x.replaced(i, word), x.line())
			}
		}
	})
}

// nowhere are, for each number of a command, numbers that are too high or too low for its place, or by which there is nothing to do.
var nowhere = map[string][][]string{
	"block": {{"0", "3", "99"}},
	"know":  {{"0", "3", "99"}, {"0", "12", "91", "99"}},
	"send":  {{"0", "3", "99"}, {"0", "3", "99"}, {"0", "4", "99"}, {"4", "99"}, {"0", "10", "99"}, {"0", "91", "99"}},
	"get":   {{"0", "3", "99"}, {"0", "5", "12", "99"}},
	"tell":  {{"0", "3", "99"}, {"0", "6", "99"}, {"0", "2", "9", "99"}},
	"late":  {{"0", "3", "99"}, {"0", "4", "12", "99"}, {"0", "2", "9", "99"}},
	"step":  {{"0", "3", "99"}, {"0", "9", "99"}, {"0", "8", "99"}},
}

// P101: numbers that are possible elsewhere, but not in their place.
func TestLinesImpossibleNumbers(t *testing.T) {
	numberPlaces(func(x possible, i int) {
		if x.words[0] == "calm" || ignoresHeight(x, i) {
			return
		}
		for _, word := range nowhere[x.words[0]][i-1] {
			checkIdle(t, x.before, x.replaced(i, word), "")
		}
	})
}

// P100, P101: the packet is the rest of the line behind two numbers, and must be its text.
func TestLinesPacketBehindNumbers(t *testing.T) {
	before := openScript + script("send 1 1 1 2 3 30", "send 1 1 3 0 9 9", "block 1", "know 2 4")
	for _, packet := range []string{"1 1 1 2 3 30 1", "2 1 3 0 9 9 1"} {
		line := "get 2 4 " + packet
		checkEffect(t, before, line)
		checkSame(t, before, "get 02 04 "+packet, line)
		fields := strings.Split(packet, " ")
		for i, field := range fields {
			for _, word := range []string{"0" + field, "00" + field, "+" + field, "-" + field, " " + field, field + " ", "", "x", field + "x", field + "\t", field + "\r", "-1"} {
				changed := slices.Clone(fields)
				changed[i] = word
				checkIdle(t, before, "get 2 4 "+strings.Join(changed, " "), "")
			}
			checkIdle(t, before, "get 2 4 "+strings.Join(slices.Delete(slices.Clone(fields), i, i+1), " "), "")
			checkIdle(t, before, "get 2 4 "+strings.Join(slices.Insert(slices.Clone(fields), i, field), " "), "")
		}
		for _, line := range []string{
			"get 2 " + packet, "get " + packet, "get 4 " + packet, "get 2 4  " + packet, "get 2  4 " + packet, "get  2 4 " + packet, "get 2 4\t" + packet,
			"get 2 4 " + packet + " ", "get 2 4 " + packet + " 1", "get 2 4 1 " + packet, "get 2 4 2 4 " + packet, "get 2 4" + packet, "get 2 4", "get 2 4 ",
			"get 2 4 " + strings.ReplaceAll(packet, " ", "  "), "get 2 4 " + strings.ReplaceAll(packet, " ", ""), "get 2 4 \"" + packet + "\"", "get 2 4 " + packet + strings.Repeat(" ", 30),
		} {
			checkIdle(t, before, line, "")
		}
	}
}

// P100, P101: a text of a packet that was not sent, or of one that is received already.
func TestLinesPacketNotSent(t *testing.T) {
	before := openScript + script("send 1 1 1 2 3 30", "block 1", "know 2 4")
	p := impl.Packet{Seq: 1, Kind: 1, From: 1, To: 2, Sum: 3, Until: 30, Ver: 1}
	checkEffect(t, before, "get 2 4 "+wantText(p))
	for _, f := range packetFields {
		for _, n := range []int{f.low - 1, f.low, f.high, f.high + 1, *f.of(&p) + 1} {
			if q := changed(p, f, n); q != p {
				checkIdle(t, before, "get 2 4 "+wantText(q), "")
			}
		}
	}
	checkIdle(t, before+script("get 2 4 "+wantText(p)), "get 2 4 "+wantText(p), "")
	checkIdle(t, before, "get 1 3 "+wantText(p), "")
}

// P101: calm with numbers of rounds in range, and others.
func TestLinesCalm(t *testing.T) {
	for rounds := 0; rounds <= 99; rounds++ {
		word := fmt.Sprintf("%02d", rounds)
		want := statusOf(restingOf("none", rounds), restingOf("none", rounds))
		if rounds > 30 {
			want = "what\n" + freshStatus
		}
		checkAnswer(t, "calm "+word+"\n", want)
		if rounds < 10 {
			checkAnswer(t, "calm "+word[1:]+"\n", want)
		}
	}
	for _, before := range someScripts() {
		checkIdle(t, before, "calm 0", "")
		checkIdle(t, before, "calm 00", "")
		for _, word := range []string{"31", "32", "99", "100", "030", "000", "-1", "-0", "+1", "x", "", " 1", "1.", "one"} {
			checkIdle(t, before, "calm "+word, "what\n")
		}
		checkIdle(t, before, "calm", "what\n")
	}
	checkAnswer(t, script("calm 30", "calm 31", "calm 30", "calm 29", "calm 0"), "what\n"+statusOf(restingOf("none", 89), restingOf("none", 89)))
	checkAnswer(t, script("calm 30", "calm 30", "calm 30", "calm 30", "block 1"), statusOf(restingOf("none", 90), restingOf("none", 90)))
}

// P101: what is not possible prints nothing and changes nothing.
func TestLinesNotPossible(t *testing.T) {
	for i, before := range someScripts() {
		for j, line := range []string{
			"know 1 0", "know 2 0", "know 1 91", "know 2 99", "get 1 0 1 1 1 1 1 1 1", "get 2 1 8 2 3 3 9 90 9", "tell 1 0 1", "tell 2 1 8", "late 1 1 8", "late 2 0 1",
			"send 1 1 1 2 31 30", "send 2 2 1 2 9 30", "send 1 3 1 2 1 30", "send 1 1 4 2 1 30", "send 2 1 1 4 1 30", "send 1 1 1 1 0 30", "send 2 1 1 1 1 0", "send 0 1 1 1 1 30",
			"step 1 0 0", "step 2 0 8", "step 1 0 2", "step 1 0 3", "step 2 0 4", "step 2 0 6", "step 1 0 7", "step 3 0 1", "block 0", "block 3",
		} {
			if (i+j)%3 == 0 || i < 2 {
				checkIdle(t, before, line, "")
			}
		}
	}
	full := script("calm 30", "calm 30", "calm 30")
	checkIdle(t, full, "block 1", "")
	checkIdle(t, full, "block 2", "")
	checkIdle(t, full, "send 1 1 1 2 3 90", "")
}

// P95: a status in each Way, at each end.
func TestLinesSeeWays(t *testing.T) {
	tried := script("step 1 0 1", "block 1", "know 2 1", "step 2 1 2")
	opened := restingOf("open", 3)
	for _, x := range []struct {
		text  string
		first standing
		other standing
	}{
		{script("step 1 0 1"), restingOf("init", 0), restingOf("none", 0)},
		{script("step 2 0 1"), restingOf("none", 0), restingOf("init", 0)},
		{script("step 1 0 1", "step 2 0 1"), restingOf("init", 0), restingOf("init", 0)},
		{tried, restingOf("init", 1), restingOf("try", 0)},
		{script("step 2 0 1", "block 2", "know 1 1", "step 1 1 2"), restingOf("try", 0), restingOf("init", 1)},
		{tried + script("block 2", "know 1 1", "step 1 1 3"), restingOf("open", 1), restingOf("try", 1)},
		{tried + script("block 2", "know 1 1", "step 1 1 3", "block 1", "know 2 2", "step 2 2 4"), restingOf("open", 2), restingOf("open", 1)},
		{openScript + script("step 1 0 5"), restingOf("flush", 3), opened},
		{openScript + script("step 2 0 5"), opened, restingOf("flush", 3)},
		{openScript + script("step 2 0 5", "step 1 0 5"), restingOf("flush", 3), restingOf("flush", 3)},
		{openScript + script("step 1 0 5", "block 1", "know 2 4", "step 2 4 6"), restingOf("flush", 4), restingOf("flush", 3)},
	} {
		status := statusOf(x.first, x.other)
		checkAnswer(t, x.text, status)
		checkAnswer(t, x.text+script("see", "see"), status+status+status)
	}
}

// P95: a status with packets in flight, refunded and settled otherwise, and with vouchers and locked coins.
func TestLinesSeePackets(t *testing.T) {
	sent := openScript + script("send 1 1 1 2 3 30", "send 1 1 2 0 4 30", "send 1 1 3 3 1 30", "send 2 1 1 1 9 30")
	flying := statusOf(
		standing{"open", 1, 3, [3]int{7, 6, 9}, 8, [3]int{}, " live live live"},
		standing{"open", 1, 3, [3]int{1, 10, 10}, 9, [3]int{}, " live"})
	checkAnswer(t, sent, flying)
	rested := sent + script("see", "calm 2", "see", "send 2 2 2 3 2 40", "send 1 2 1 2 9 40")
	settled := statusOf(
		standing{"open", 1, 5, [3]int{7, 10, 9}, 4, [3]int{9, 0, 0}, " done back done"},
		standing{"open", 1, 5, [3]int{1, 10, 10}, 9, [3]int{0, 3, 1}, " done"})
	again := statusOf(
		standing{"open", 1, 5, [3]int{7, 10, 9}, 4, [3]int{}, " done back done live"},
		standing{"open", 1, 5, [3]int{1, 10, 10}, 9, [3]int{0, 1, 1}, " done live"})
	checkAnswer(t, rested, flying+settled+again)
	checkAnswer(t, rested+script("calm 2", "step 1 0 5"), flying+settled+statusOf(
		standing{"flush", 1, 7, [3]int{7, 10, 11}, 2, [3]int{}, " done back done done"},
		standing{"open", 1, 7, [3]int{1, 19, 10}, 0, [3]int{0, 1, 1}, " done done"}))
}

// P95: a status with SeqMax packets, all versions and all heights.
func TestLinesSeeLimits(t *testing.T) {
	eight := openScript + strings.Repeat("send 1 1 3 1 1 60\n", 9)
	checkAnswer(t, eight, statusOf(
		standing{"open", 1, 3, [3]int{10, 10, 2}, 8, [3]int{}, strings.Repeat(" live", 8)}, restingOf("open", 3)))
	checkAnswer(t, eight+script("calm 30", "calm 30", "calm 30"), statusOf(
		standing{"open", 1, 90, [3]int{10, 10, 2}, 8, [3]int{}, strings.Repeat(" done", 8)},
		standing{"open", 1, 90, [3]int{10, 10, 10}, 0, [3]int{8, 0, 0}, ""}))
	end := restingOf("open", 75)
	end.ver = 9
	checkAnswer(t, openScript+strings.Repeat("step 1 0 5\ncalm 8\n", 9), statusOf(end, end))
}

// General rules: no state is kept, and the same is given at the same time.
func TestLinesNoState(t *testing.T) {
	texts := someScripts()
	var want []string
	for _, text := range texts {
		want = append(want, impl.LinesRun(text))
	}
	done := make(chan int)
	for range 4 {
		go func() {
			wrong := 0
			for i := range texts {
				at := len(texts) - 1 - i
				if impl.LinesRun(texts[at]) != want[at] || impl.LinesRun("") != freshStatus {
					wrong++
				}
			}
			done <- wrong
		}()
	}
	for range 4 {
		if wrong := <-done; wrong != 0 {
			t.Error("not the same again:", wrong)
		}
	}
}
