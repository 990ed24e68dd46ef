package tests

import (
	"strings"
	"testing"

	"loop.example/hawser/impl"
)

// P95, P101, P102: drawn scripts, by the events that their lines stand for.
func TestLinesDrawnEvents(t *testing.T) {
	seen := map[string]int{}
	for seed := 5000; seed < 5300; seed++ {
		l := drawLines(seed)
		checkAnswer(t, l.text, l.out+wantStatus(l.world))
		checkBehind(t, l.text)
		for command, n := range l.seen {
			seen[command] += n
		}
		for _, word := range []string{"what", "init", "try", "flush", "open 2", "live", "done", "back"} {
			seen[word] += strings.Count(l.out, word)
		}
		if t.Failed() {
			t.Fatal("seed", seed)
		}
	}
	for _, word := range strings.Fields("block know send get tell late step calm what init try flush live done back") {
		if seen[word] < 50 {
			t.Error("too few cases", word, seen)
		}
	}
}

// P95, P101: drawn scripts cut off after each of their bytes.
func TestLinesDrawnCutOff(t *testing.T) {
	for seed := 5300; seed < 5305; seed++ {
		l := drawLines(seed)
		for n := range l.text {
			answer(t, l.text[:n])
		}
	}
}

// P95, P101: drawn scripts with a few bytes changed.
func TestLinesDrawnSpoilt(t *testing.T) {
	for seed := 5400; seed < 5500; seed++ {
		l := drawLines(seed)
		for range 10 {
			answer(t, l.spoilt())
		}
	}
}

// P95, P101: drawn bytes, of all there are, and of those that commands have.
func TestLinesDrawnBytes(t *testing.T) {
	d := drawerOf(5500)
	words := strings.Fields("block know send get tell late step calm see 1 2 3 0 30 9 05 x")
	for range 2000 {
		bytes := make([]byte, d.Intn(605))
		d.Read(bytes)
		answer(t, string(bytes))
		text := ""
		for len(text) < 580 {
			text += words[d.Intn(len(words))] + []string{" ", " ", " ", "\n"}[d.Intn(4)]
		}
		answer(t, text)
	}
}

// P95, P102: what is printed does not depend on what follows.
func TestLinesDrawnInParts(t *testing.T) {
	for seed := 5600; seed < 5620; seed++ {
		l := drawLines(seed)
		whole, _ := parts(t, l.text)
		text := ""
		for part := range strings.Lines(l.text) {
			text += part
			if ahead, _ := parts(t, text); !strings.HasPrefix(whole, ahead) {
				t.Fatalf("%q prints\n%s, but %q\n%s", l.text, whole, text, ahead)
			}
		}
	}
}

// General rules: functions keep no state: the same is given whatever was run before.
func TestLinesDrawnNoState(t *testing.T) {
	var texts, want []string
	for seed := 5700; seed < 5730; seed++ {
		text := drawLines(seed).text
		texts, want = append(texts, text), append(want, impl.LinesRun(text))
	}
	for i := range texts {
		for j := range texts {
			impl.LinesRun(texts[(i*j)%len(texts)])
			if got := impl.LinesRun(texts[j]); got != want[j] {
				t.Fatalf("%q is answered\n%s, not\n%s", texts[j], got, want[j])
			}
		}
	}
}
