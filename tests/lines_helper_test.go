package tests

import (
	"fmt"
	"regexp"
	"strconv"
	"strings"
	"testing"

	"loop.example/hawser/impl"
)

// script is a script of these lines.
func script(lines ...string) string {
	out := ""
	for _, line := range lines {
		out += line + "\n"
	}
	return out
}

// openScript opens the channel. Both chains have 3 heights then, all of them known.
var openScript = script("step 1 0 1", "calm 3")

// busyScript has packets of every fate on both chains, of both kinds; 5 heights, of which the last ones are not known, and an end in WayFlush.
var busyScript = openScript + script(
	"send 1 1 1 2 5 40", "send 1 1 2 0 2 40", "send 2 1 3 3 1 40", "send 2 1 3 1 4 5", "calm 2",
	"send 2 2 2 1 3 40", "send 1 1 3 1 2 40", "send 1 1 3 1 7 7", "block 1", "block 2", "step 2 0 5")

// someScripts are scripts after which the chains stand in different ways, with no packets and with some.
func someScripts() []string {
	tried := script("step 1 0 1", "block 1", "know 2 1", "step 2 1 2")
	return []string{
		"", script("step 1 0 1"), script("step 2 0 1"), tried, tried + script("block 2", "know 1 1", "step 1 1 3"),
		openScript, openScript + script("step 1 0 5"), openScript + script("step 2 0 5", "calm 1"), openScript + script("step 1 0 5", "calm 4"),
		openScript + script("send 1 1 1 2 3 30", "block 1", "know 2 4"), openScript + script("send 2 1 3 1 9 2"),
		busyScript, busyScript + script("calm 1"), busyScript + script("calm 3"),
		script("calm 30", "calm 30", "calm 29", "step 2 0 1"), openScript + script("send 1 1 2 3 4 90", "calm 30", "calm 30", "calm 30"),
	}
}

// standing is what a status says of a chain; each fate has a blank ahead.
type standing struct {
	way          string
	ver, heights int
	own          [3]int
	locked       int
	notes        [3]int
	fates        string
}

// restingOf has the coins and the version of the beginning.
func restingOf(way string, heights int) standing {
	return standing{way: way, ver: 1, heights: heights, own: [3]int{10, 10, 10}}
}

func (x standing) line(id int) string {
	return fmt.Sprintf("%d %s %d %d own %d %d %d locked %d notes %d %d %d%s\n", id, x.way, x.ver, x.heights,
		x.own[0], x.own[1], x.own[2], x.locked, x.notes[0], x.notes[1], x.notes[2], x.fates)
}

// statusOf is the status of two chains.
func statusOf(first, second standing) string {
	return first.line(1) + second.line(2)
}

// freshStatus is the status at the beginning.
var freshStatus = statusOf(restingOf("none", 0), restingOf("none", 0))

// wantStatus is the status of a run.
func wantStatus(w impl.World) string {
	var at [2]standing
	for i, c := range w.Chains {
		fates := ""
		for j := range c.State.Sent {
			switch {
			case c.State.Live[j]:
				fates += " live"
			case c.State.Back[j]:
				fates += " back"
			default:
				fates += " done"
			}
		}
		way := strings.Fields("none init try open flush")[c.State.Way]
		at[i] = standing{way, c.State.Ver, len(c.Past), [3]int(c.Bank.Own), c.Bank.Locked, [3]int(c.Bank.Notes), fates}
	}
	return statusOf(at[0], at[1])
}

// wantNumber is what a word counts as.
func wantNumber(word string) int {
	n, err := strconv.ParseUint(word, 10, 8)
	if err != nil || len(word) > 2 {
		return -1
	}
	return int(n)
}

// wantPacket is the packet of a run with this text, and whether there is one. A packet that was not sent cannot be received.
func wantPacket(w impl.World, text string) (impl.Packet, bool) {
	for _, c := range w.Chains {
		for _, p := range c.State.Sent {
			if wantText(p) == text {
				return p, true
			}
		}
	}
	return impl.Packet{}, false
}

// wantLine is a run after a line, and what the line prints, written out from the specification.
func wantLine(w impl.World, line string) (impl.World, string) {
	words := strings.Split(line+"       ", " ")
	n := make([]int, 7)
	for i := range n {
		n[i] = wantNumber(words[i])
	}
	switch words[0] {
	case "block":
		return impl.WorldDo(w, blockOn(n[1])), ""
	case "know":
		return impl.WorldDo(w, knowOn(n[1], n[2])), ""
	case "send":
		return impl.WorldDo(w, sendOn(n[1], sending{n[2], n[3], n[4], n[5], n[6]})), ""
	case "get":
		if p, ok := wantPacket(w, wantRest(line)); ok {
			return impl.WorldDo(w, getOn(n[1], n[2], p)), ""
		}
		return w, ""
	case "tell":
		return impl.WorldDo(w, tellOn(n[1], n[2], n[3])), ""
	case "late":
		return impl.WorldDo(w, lateOn(n[1], n[2], n[3])), ""
	case "step":
		return impl.WorldDo(w, stepOn(n[1], n[2], n[3])), ""
	case "calm":
		if n[1] >= 0 && n[1] <= 30 {
			return impl.WorldCalm(w, n[1]), ""
		}
	case "see":
		return w, wantStatus(w)
	}
	return w, "what\n"
}

// wantRest is the rest of a line behind the blank that follows the third word; empty, if there is none.
func wantRest(line string) string {
	for range 3 {
		_, line, _ = strings.Cut(line, " ")
	}
	return line
}

// wantAnswer is what LinesRun must give.
func wantAnswer(text string) string {
	if len(text) > 600 {
		return "too long\n"
	}
	w, out := impl.WorldNew(), ""
	for {
		line, rest, ended := strings.Cut(text, "\n")
		if !ended {
			return out + wantStatus(w)
		}
		after, printed := wantLine(w, line)
		w, out, text = after, out+printed, rest
	}
}

var (
	statusLine  = `%s (none|init|try|open|flush) [1-9] [0-9]+ own [0-9]+ [0-9]+ [0-9]+ locked [0-9]+ notes [0-9]+ [0-9]+ [0-9]+( (live|back|done)){0,8}\n`
	statusForm  = fmt.Sprintf(statusLine, "1") + fmt.Sprintf(statusLine, "2")
	answerForm  = regexp.MustCompile(`^(what\n|` + statusForm + `)*$`)
	answeredEnd = regexp.MustCompile(statusForm + `$`)
)

// answer is what a script is answered; it is checked against wantAnswer, and for what P95 says.
func answer(t *testing.T, text string) string {
	t.Helper()
	got := impl.LinesRun(text)
	if want := wantAnswer(text); got != want {
		t.Fatalf("%q is answered\n%s, not\n%s", text, got, want)
	}
	if long := len(text) > 600; long && got != "too long\n" || !long && (!answerForm.MatchString(got) || !answeredEnd.MatchString(got)) {
		t.Fatalf("%q is answered\n%s", text, got)
	}
	return got
}

// checkAnswer checks what a script is answered.
func checkAnswer(t *testing.T, text, want string) {
	t.Helper()
	if got := answer(t, text); got != want {
		t.Errorf("%q is answered\n%s, not\n%s", text, got, want)
	}
}

// parts are what the lines of a script printed, and the status at the end.
func parts(t *testing.T, text string) (string, string) {
	t.Helper()
	got := answer(t, text)
	at := answeredEnd.FindStringIndex(got)
	if at == nil {
		t.Fatalf("%q is answered\n%s", text, got)
	}
	return got[:at[0]], got[at[0]:]
}

// endOfScript is the status at the end of a script.
func endOfScript(t *testing.T, text string) string {
	t.Helper()
	_, status := parts(t, text)
	return status
}

// onward are lines behind which it shows what chains know, and what they were.
var onward = []string{"", script("calm 1"), script("block 1", "block 2", "know 1 4", "know 2 4", "late 1 4 1", "tell 2 4 1"), script("step 1 1 2", "step 2 1 2", "step 2 4 6", "step 2 11 6")}

// checkIdle checks that a line behind a script prints this and changes nothing.
func checkIdle(t *testing.T, before, line, printed string) {
	t.Helper()
	for _, behind := range onward {
		text, without := before+script(line)+behind, before+behind
		if len(text) > 600 {
			continue
		}
		if got, want := endOfScript(t, text), endOfScript(t, without); got != want {
			t.Errorf("%q behind %q changes\n%s to\n%s", line, before, want, got)
		}
	}
	ahead, status := parts(t, before)
	checkAnswer(t, before+script(line), ahead+printed+status)
}

// checkSame checks that two lines behind a script do the same, and that it is something.
func checkSame(t *testing.T, before, line, other string) {
	t.Helper()
	for _, behind := range onward {
		if got, want := answer(t, before+script(line)+behind), answer(t, before+script(other)+behind); got != want {
			t.Errorf("%q behind %q gives\n%s, but %q gives\n%s", line, before, got, other, want)
		}
	}
	checkEffect(t, before, line)
}

// checkEffect checks that a line behind a script prints nothing and changes something.
func checkEffect(t *testing.T, before, line string) {
	t.Helper()
	ahead, _ := parts(t, before)
	if printed, _ := parts(t, before+script(line)); printed != ahead {
		t.Errorf("%q behind %q prints %q", line, before, strings.TrimPrefix(printed, ahead))
	}
	changed := false
	for _, behind := range onward {
		changed = changed || endOfScript(t, before+script(line)+behind) != endOfScript(t, before+behind)
	}
	if !changed {
		t.Errorf("%q changes nothing behind %q", line, before)
	}
}

// possible is a line that has an effect behind a script, word by word; the last one of get is its packet.
type possible struct {
	before string
	words  []string
}

func (x possible) line() string {
	return strings.Join(x.words, " ")
}

// replaced is the line with another word.
func (x possible) replaced(i int, word string) string {
	words := append([]string(nil), x.words...)
	words[i] = word
	return strings.Join(words, " ")
}

// possibles are lines with effects, of every command but see, on both chains.
func possibles() []possible {
	sent := openScript + script("send 1 1 1 2 3 30", "send 2 1 2 1 4 5", "block 1", "block 2", "know 1 4", "know 2 4")
	got := sent + script("get 2 4 1 1 1 2 3 30 1", "block 2", "know 1 5", "block 1", "know 2 5")
	eleven := openScript + script("calm 7", "send 1 1 2 2 2 11", "block 1", "block 2")
	return []possible{
		{"", []string{"block", "1"}},
		{openScript, []string{"block", "2"}},
		{openScript + script("step 1 0 5", "block 1"), []string{"know", "2", "4"}},
		{openScript + script("calm 7", "step 1 0 5", "block 1"), []string{"know", "2", "11"}},
		{openScript, []string{"send", "1", "1", "1", "2", "3", "30"}},
		{openScript, []string{"send", "2", "1", "3", "0", "9", "4"}},
		{got + script("block 1"), []string{"send", "2", "2", "2", "1", "2", "90"}},
		{sent, []string{"get", "2", "4", "1 1 1 2 3 30 1"}},
		{openScript + script("calm 7", "send 1 1 2 2 2 90", "block 1", "know 2 11"), []string{"get", "2", "11", "1 1 2 2 2 90 1"}},
		{got, []string{"tell", "1", "5", "1"}},
		{got, []string{"late", "2", "5", "1"}},
		{eleven + script("know 1 11"), []string{"late", "1", "11", "1"}},
		{"", []string{"step", "2", "0", "1"}},
		{script("step 1 0 1", "block 1", "know 2 1"), []string{"step", "2", "1", "2"}},
		{openScript, []string{"step", "1", "0", "5"}},
		{openScript, []string{"calm", "2"}},
		{"", []string{"calm", "30"}},
	}
}
