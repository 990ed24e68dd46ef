package tests

import (
	"fmt"
	"strings"

	"loop.example/hawser/impl"
)

// noNumberWords count as -1. The empty one is among them, so that a line may have double or trailing blanks.
var noNumberWords = []string{"", "-1", "x", "100", "001", "+1", "1x", "0x1", "\xff", "٣"}

// otherWords are first words of lines that are no command.
var otherWords = []string{"", "what", "move 1 1 1 2 3", "Block 1", "hello", "see\r", " see", "blocks 1", "\x00", "calm1", "calm 31", "calm x", "calm 030", "calm", "calm -1"}

// drawnLines is a script that is drawn line by line, with the run of the events that the lines stand for.
type drawnLines struct {
	drawer
	text  string
	world impl.World
	out   string
	seen  map[string]int
}

// number is a word for a number, at times with a leading zero. One that has no word is written as one that counts as -1.
func (l *drawnLines) number(n int) string {
	switch {
	case n < 0 || n > 99:
		return noNumberWords[l.Intn(len(noNumberWords))]
	case n < 10 && l.Intn(5) == 0:
		return fmt.Sprint("0", n)
	}
	return fmt.Sprint(n)
}

func (l *drawnLines) words(command string, numbers ...int) string {
	words := []string{command}
	for _, n := range numbers {
		words = append(words, l.number(n))
	}
	if l.Intn(8) == 0 {
		words = append(words, noNumberWords[l.Intn(len(noNumberWords))])
	}
	return strings.Join(words, " ")
}

// lineOf is a line for an event, and whether there is a command for it.
func (l *drawnLines) lineOf(e impl.Event) (string, bool) {
	p := e.Packet
	switch e.Kind {
	case impl.EvBlock:
		return l.words("block", e.Chain), true
	case impl.EvKnow:
		return l.words("know", e.Chain, e.Height), true
	case impl.EvSend:
		return l.words("send", e.Chain, p.Kind, p.From, p.To, p.Sum, p.Until), true
	case impl.EvGet:
		return fmt.Sprintf("get %s %s %s", l.number(e.Chain), l.number(e.Height), wantText(p)), true
	case impl.EvTell:
		return l.words("tell", e.Chain, e.Height, e.N), true
	case impl.EvLate:
		return l.words("late", e.Chain, e.Height, e.N), true
	case impl.EvStep:
		return l.words("step", e.Chain, e.Height, e.N), true
	}
	return "", false
}

// add adds a line, if the script does not become too long, and says whether it has been.
func (l *drawnLines) add(line string, after impl.World, printed string) bool {
	if len(l.text)+len(line)+1 > 600 {
		return false
	}
	if !sameWorld(l.world, after) {
		l.seen[strings.Split(line, " ")[0]]++
	}
	l.text, l.world, l.out = l.text+line+"\n", after, l.out+printed
	return true
}

// next adds a line of any sort.
func (l *drawnLines) next() bool {
	switch l.Intn(14) {
	case 0:
		return l.add("see", l.world, wantStatus(l.world))
	case 1:
		return l.add(otherWords[l.Intn(len(otherWords))], l.world, "what\n")
	case 2:
		rounds := l.Intn(3)
		return l.add(l.words("calm", rounds), impl.WorldCalm(l.world, rounds), "")
	}
	e := l.event(l.world)
	if line, ok := l.lineOf(e); ok {
		return l.add(line, impl.WorldDo(l.world, e), "")
	}
	return l.add("move", l.world, "what\n")
}

// drawLines draws a script that is as long as may be. Most begin with an open channel.
func drawLines(seed int) *drawnLines {
	l := &drawnLines{drawer: drawerOf(seed), world: impl.WorldNew(), seen: map[string]int{}}
	if seed%5 > 0 {
		e := stepOn(1+seed%2, 0, impl.StepInit)
		l.add(fmt.Sprintf("step %d 0 1", e.Chain), impl.WorldDo(l.world, e), "")
		l.add("calm 3", impl.WorldCalm(l.world, 3), "")
	}
	for l.next() {
	}
	return l
}

// spoilt is a script with bytes replaced, taken away, added or repeated.
func (l *drawnLines) spoilt() string {
	const letters = "0123456789 \n\t-+x\x00\xffblocknwsedgtlaremp"
	text := []byte(l.text)
	for range 1 + l.Intn(6) {
		at, b := l.Intn(len(text)), letters[l.Intn(len(letters))]
		switch l.Intn(4) {
		case 0:
			text[at] = b
		case 1:
			text = append(text[:at], text[at+1:]...)
		case 2:
			text = append(text[:at:at], append([]byte{b}, text[at:]...)...)
		case 3:
			text = append(text[:at:at], append([]byte{text[at]}, text[at:]...)...)
		}
	}
	return string(text)
}
