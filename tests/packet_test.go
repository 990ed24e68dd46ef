package tests

import (
	"strings"
	"testing"

	"loop.example/hawser/impl"
)

// checkNoText checks that a text is not read.
func checkNoText(t *testing.T, name string, text string) {
	t.Helper()
	if p, ok := impl.PacketRead(text); ok || p != (impl.Packet{}) {
		t.Errorf("%s: %.40q read as %v, %v", name, text, p, ok)
	}
}

// checkInvalid checks that a packet is refused, and neither has a text nor is read from what would be its text.
func checkInvalid(t *testing.T, name string, p impl.Packet) {
	t.Helper()
	if impl.PacketOk(p) || impl.PacketText(p) != "" {
		t.Errorf("%s: accepted: %v %q", name, p, impl.PacketText(p))
	}
	checkNoText(t, name, wantText(p))
}

func TestPacketLimits(t *testing.T) {
	if impl.SeqMax != 8 || impl.HeightMax != 90 || impl.VerMax != 9 {
		t.Error(impl.SeqMax, impl.HeightMax, impl.VerMax)
	}
}

// P10, P11, P12: all valid packets; what is read back from its own text shares that text with no other one.
func TestPacketReadOfText(t *testing.T) {
	for _, p := range allPackets() {
		text := impl.PacketText(p)
		got, ok := impl.PacketRead(text)
		if !impl.PacketOk(p) || !ok || got != p || impl.PacketText(got) != text {
			t.Fatalf("%v has text %q, read as %v, %v", p, text, got, ok)
		}
	}
}

// P10: the text itself.
func TestPacketText(t *testing.T) {
	for _, p := range edgePackets() {
		if text := impl.PacketText(p); text != wantText(p) || !packetPattern.MatchString(text) {
			t.Errorf("%v has text %q", p, text)
		}
	}
	p := impl.Packet{Seq: 8, Kind: 2, From: 3, To: 1, Sum: 5, Until: 67, Ver: 4}
	if text := impl.PacketText(p); text != "8 2 3 1 5 67 4" {
		t.Errorf("%q", text)
	}
}

// P11: a text is read if and only if the pattern has it, and as the packet that has this text.
func TestPacketReadNearText(t *testing.T) {
	texts := []string{""}
	for _, p := range edgePackets() {
		texts = append(texts, wantText(p))
	}
	for _, text := range texts {
		for _, near := range nearTexts(text) {
			checkRead(t, near)
		}
	}
}

func checkRead(t *testing.T, text string) {
	t.Helper()
	p, ok := impl.PacketRead(text)
	if ok != packetPattern.MatchString(text) {
		t.Errorf("%q read as %v, %v", text, p, ok)
	}
	if ok && (!impl.PacketOk(p) || impl.PacketText(p) != text || wantText(p) != text) {
		t.Errorf("%q read as %v, with text %q", text, p, impl.PacketText(p))
	}
	if !ok && p != (impl.Packet{}) {
		t.Errorf("%q: not the zero value: %v", text, p)
	}
}

// P11: two bytes away from the text of a packet.
func TestPacketReadTwoBytesAway(t *testing.T) {
	const text = "1 1 1 0 9 9 1"
	marks := []string{"", " ", "0", "1", "9", "-", "+", "\n"}
	for i := 0; i <= len(text); i++ {
		for j := i; j <= len(text); j++ {
			for _, first := range marks {
				for _, second := range marks {
					checkRead(t, text[:i]+first+text[i:j]+second+text[j:])
				}
			}
		}
	}
}

// P11
func TestPacketReadNoText(t *testing.T) {
	for name, texts := range noTexts() {
		for _, text := range texts {
			checkNoText(t, name, text)
		}
	}
}

// P11
func TestPacketReadLongText(t *testing.T) {
	for _, text := range longTexts() {
		if len(text) <= 24 {
			t.Fatalf("%q is not long", text)
		}
		checkNoText(t, "long", text)
	}
	for n := 1; n <= 24; n++ {
		checkNoText(t, "noughts", strings.Repeat("0", n)+"2 1 3 0 9 40 1")
	}
}

// P12
func TestPacketTextsDiffer(t *testing.T) {
	seen := map[string]impl.Packet{}
	for _, p := range packetsWith(func(f packetField) []int {
		if f.name == "Until" {
			return []int{1, 2, 8, 9, 10, 11, 12, 19, 20, 21, 88, 89, 90}
		}
		return rangeOf(f)
	}) {
		text := impl.PacketText(p)
		if other, ok := seen[text]; impl.PacketOk(p) && ok && other != p {
			t.Fatalf("%v and %v have text %q", p, other, text)
		}
		seen[text] = p
	}
}

// P13
func TestPacketNobody(t *testing.T) {
	for _, p := range allPackets() {
		p.To = 0
		if !impl.PacketOk(p) {
			t.Fatal("recipient 0 refused", p)
		}
	}
	got, ok := impl.PacketRead("1 1 1 0 1 1 1")
	if !ok || got != (impl.Packet{Seq: 1, Kind: 1, From: 1, To: 0, Sum: 1, Until: 1, Ver: 1}) {
		t.Error(got, ok)
	}
}

// P13
func TestPacketFieldNought(t *testing.T) {
	for _, p := range edgePackets() {
		for _, f := range packetFields {
			if f.name != "To" {
				checkInvalid(t, f.name+" of 0", changed(p, f, 0))
			}
		}
	}
}

// P13, P15: each field at the ends of its range and beyond them.
func TestPacketRanges(t *testing.T) {
	for _, p := range edgePackets() {
		for _, f := range packetFields {
			for n := f.low; n <= f.high; n++ {
				if q := changed(p, f, n); !impl.PacketOk(q) || impl.PacketText(q) != wantText(q) {
					t.Error("refused", q)
				}
			}
			for _, n := range beyond(f) {
				checkInvalid(t, f.name+" out of range", changed(p, f, n))
			}
		}
	}
	checkInvalid(t, "zero value", impl.Packet{})
}

// P14
func TestPacketTextShorterOrLonger(t *testing.T) {
	for _, p := range allPackets() {
		text := impl.PacketText(p)
		if text == "" {
			t.Fatal("no text", p)
		}
		if got, ok := impl.PacketRead(text[:len(text)-1]); ok && got == p {
			t.Fatalf("%v is read without the last byte of %q", p, text)
		}
		if got, ok := impl.PacketRead(text + " "); ok || got != (impl.Packet{}) {
			t.Fatalf("%q with a further blank is read as %v", text, got)
		}
	}
}

// P15
func TestPacketSenderRecipientAmount(t *testing.T) {
	for _, p := range edgePackets() {
		for from := -1; from <= 5; from++ {
			for to := -1; to <= 5; to++ {
				for sum := -1; sum <= 11; sum++ {
					q := p
					q.From, q.To, q.Sum = from, to, sum
					want := from >= 1 && from <= 3 && to >= 0 && to <= 3 && sum >= 1 && sum <= 9
					if impl.PacketOk(q) != want || (impl.PacketText(q) != "") != want {
						t.Error(q, impl.PacketOk(q), impl.PacketText(q))
					}
				}
			}
		}
	}
}

// General rules: no state is kept between calls.
func TestPacketNoState(t *testing.T) {
	const text = "2 1 3 0 9 40 1"
	first, _ := impl.PacketRead(text)
	checkNoText(t, "between", "x")
	impl.PacketText(impl.Packet{Seq: 1, Kind: 1, From: 1, To: 1, Sum: 1, Until: 1, Ver: 1})
	again, ok := impl.PacketRead(text)
	if !ok || first != again || impl.PacketText(first) != text {
		t.Error(first, again, ok)
	}
}
