package tests

import (
	"fmt"
	"math"
	"regexp"
	"strings"

	"loop.example/hawser/impl"
)

// packetField is a field of a packet, with its range as the specification states it.
type packetField struct {
	name      string
	low, high int
	of        func(p *impl.Packet) *int
}

// packetFields are in the order of the text.
var packetFields = []packetField{
	{"Seq", 1, 8, func(p *impl.Packet) *int { return &p.Seq }},
	{"Kind", 1, 2, func(p *impl.Packet) *int { return &p.Kind }},
	{"From", 1, 3, func(p *impl.Packet) *int { return &p.From }},
	{"To", 0, 3, func(p *impl.Packet) *int { return &p.To }},
	{"Sum", 1, 9, func(p *impl.Packet) *int { return &p.Sum }},
	{"Until", 1, 90, func(p *impl.Packet) *int { return &p.Until }},
	{"Ver", 1, 9, func(p *impl.Packet) *int { return &p.Ver }},
}

// packetPattern is a second statement of which texts packets have.
var packetPattern = regexp.MustCompile(`\A[1-8] [12] [1-3] [0-3] [1-9] ([1-9]|[1-8][0-9]|90) [1-9]\z`)

// changed is a packet with another value of a field.
func changed(p impl.Packet, f packetField, n int) impl.Packet {
	*f.of(&p) = n
	return p
}

// beyond are numbers outside the range of a field, among them ones that come into it if their upper bits are lost.
func beyond(f packetField) []int {
	return []int{f.low - 1, f.high + 1, -f.high, f.high + 100, 1<<8 + f.low, 1<<16 + f.low, 1<<32 + f.low, math.MaxInt, math.MinInt, math.MinInt + f.low}
}

// packetsWith has every packet whose fields are values of these, field by field.
func packetsWith(values func(f packetField) []int) []impl.Packet {
	out := []impl.Packet{{}}
	for _, f := range packetFields {
		var more []impl.Packet
		for _, p := range out {
			for _, n := range values(f) {
				more = append(more, changed(p, f, n))
			}
		}
		out = more
	}
	return out
}

// rangeOf has the valid values of a field.
func rangeOf(f packetField) []int {
	var out []int
	for n := f.low; n <= f.high; n++ {
		out = append(out, n)
	}
	return out
}

// allPackets has every valid packet.
func allPackets() []impl.Packet {
	return packetsWith(rangeOf)
}

// edgePackets has the valid packets whose fields are at the ends of their ranges, and for Until also where its text gets longer.
func edgePackets() []impl.Packet {
	return packetsWith(func(f packetField) []int {
		if f.name == "Until" {
			return []int{f.low, 9, 10, f.high}
		}
		return []int{f.low, f.high}
	})
}

// wantText is the text that the specification asks for, of a valid packet.
func wantText(p impl.Packet) string {
	return fmt.Sprintf("%d %d %d %d %d %d %d", p.Seq, p.Kind, p.From, p.To, p.Sum, p.Until, p.Ver)
}

// wordsChanged has the text with each of its words in turn replaced by what a function makes of it.
func wordsChanged(text string, change func(word string) string) []string {
	var out []string
	for i := range strings.Split(text, " ") {
		words := strings.Split(text, " ")
		words[i] = change(words[i])
		out = append(out, strings.Join(words, " "))
	}
	return out
}

// nearTexts has every text that differs from a text by one byte that is put in, left out or replaced.
func nearTexts(text string) []string {
	var out []string
	for i := 0; i <= len(text); i++ {
		for b := range 256 {
			put := string([]byte{byte(b)})
			out = append(out, text[:i]+put+text[i:])
			if i < len(text) {
				out = append(out, text[:i]+put+text[i+1:])
			}
		}
		if i < len(text) {
			out = append(out, text[:i]+text[i+1:])
		}
	}
	return out
}

// noTexts are texts that no packet has, by what is wrong with them.
func noTexts() map[string][]string {
	const text = "2 1 3 0 9 40 1"
	ahead := func(put string) []string {
		return wordsChanged(text, func(word string) string { return put + word })
	}
	behind := func(put string) []string {
		return wordsChanged(text, func(word string) string { return word + put })
	}
	between := func(put string) []string {
		out := []string{strings.ReplaceAll(text, " ", put)}
		for i := range text {
			if text[i] == ' ' {
				out = append(out, text[:i]+put+text[i+1:])
			}
		}
		return out
	}
	return map[string][]string{
		"a nought ahead":           ahead("0"),
		"noughts ahead":            ahead("00"),
		"only noughts":             {"2 1 3 00 9 40 1", "2 1 3 000 9 40 1"},
		"a plus":                   ahead("+"),
		"a minus":                  ahead("-"),
		"two signs":                ahead("--"),
		"a sign behind":            behind("-"),
		"a nought with a sign":     {"2 1 3 -0 9 40 1", "2 1 3 +0 9 40 1"},
		"a blank too many":         between("  "),
		"a blank too few":          between(""),
		"a blank at the beginning": {" " + text, "  " + text},
		"a blank at the end":       {text + " ", text + "  "},
		"only blanks":              {" ", "      ", "       ", strings.Repeat(" ", 24)},
		"a tab between":            between("\t"),
		"a newline between":        between("\n"),
		"a comma between":          between(","),
		"a minus between":          between("-"),
		"a wide blank between":     between("\u00a0"),
		"a zero byte between":      between("\x00"),
		"a newline at the end":     {text + "\n", text + "\r\n", text + "\x00"},
		"a newline ahead":          {"\n" + text, "\x00" + text},
		"a field too many":         {text + " 1", "1 " + text, text + " 0", text + " x"},
		"a field too few":          {"2 1 3 0 9 40", "1 3 0 9 40 1", "2 1 3 9 40 1", "2", "40"},
		"an empty field":           wordsChanged(text, func(string) string { return "" }),
		"a letter":                 append(behind("x"), ahead("x")...),
		"another way to write":     {"0x2 1 3 0 9 40 1", "2 1 3 0 9 4e1 1", "2 1 3 0 9 4_0 1", "2.0 1 3 0 9 40 1", "\uff12 1 3 0 9 40 1", "\xff 1 3 0 9 40 1"},
		"a number that wraps":      {"258 1 3 0 9 40 1", "65538 1 3 0 9 40 1", "4294967298 1 3 0 9 40 1", "2 1 3 0 9 4294967336 1"},
		"quotes":                   {`"` + text + `"`},
		"empty":                    {""},
	}
}

// longTexts has texts of more than 24 bytes, made of the text of a packet.
func longTexts() []string {
	const text = "2 1 3 0 9 40 1"
	var out []string
	for _, put := range []string{" ", "0", "1", "\x00", " 1"} {
		for n := 25 - len(text); n <= 40; n++ {
			fill := strings.Repeat(put, n)
			out = append(out, text+fill, fill+text, text[:7]+fill+text[7:])
		}
	}
	return append(out, text+" "+text, strings.Repeat(text+" ", 10000), strings.Repeat("0", 1000000)+text)
}
