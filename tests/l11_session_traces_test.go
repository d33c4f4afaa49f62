package tests

import (
	"fmt"
	"math/rand"
	"slices"
	"strings"
	"testing"

	"loop.example/kiln/impl"
)

// lineOf is the line that asks for an event; false if there is none.
func lineOf(e impl.Event) (string, bool) {
	if e.A < 0 || e.B < 0 || e.C < 0 {
		return "", false
	}
	switch e.Kind {
	case impl.EvTick:
		return "tick", true
	case impl.EvBring:
		return fmt.Sprint("bring ", e.A), true
	case impl.EvDouble:
		return fmt.Sprint("double ", e.A), true
	case impl.EvLose:
		return fmt.Sprint("lose ", e.A), true
	case impl.EvBend:
		return fmt.Sprintf("bend %d %d %d", e.A, e.B, e.C), true
	case impl.EvFall:
		return fmt.Sprintf("fall %d %d", e.A, e.B), true
	case impl.EvRise:
		return fmt.Sprint("rise ", e.A), true
	case impl.EvAsk:
		return "ask " + e.Name, true
	case impl.EvEdit:
		return lineOfEntry(e.Entry)
	case impl.EvPack:
		return "pack", true
	}
	return "", false
}

func lineOfEntry(e impl.Entry) (string, bool) {
	switch e.Kind {
	case impl.EntFile:
		tool, isLines := strings.CutSuffix(e.File.Text, "\n")
		if isLines && !strings.Contains(tool, ";") {
			return "tool " + e.File.Name + " " + slowQuote(strings.ReplaceAll(tool, "\n", "; ")), true
		}
		return "file " + e.File.Name + " " + slowQuote(e.File.Text), true
	case impl.EntDrop:
		return "drop " + e.File.Name, true
	case impl.EntClear:
		return "clear", true
	}
	return "", false
}

// twinLine gives a file one of the twins, and the other one if it has that.
func twinLine(r *rand.Rand, tree impl.Tree) string {
	file := impl.File{Name: randomThing(r)}
	for _, f := range tree.Files {
		if len(f.Name) == 1 && (f.Text == oneTwin || r.Intn(2) == 0) {
			file = f
		}
	}
	if file.Text == oneTwin {
		return "file " + file.Name + " " + slowQuote(otherTwin)
	}
	return "file " + file.Name + " " + slowQuote(oneTwin)
}

// likelyLine is a line that most often does something in a world; some are no lines.
func likelyLine(t *testing.T, r *rand.Rand, w impl.World) string {
	t.Helper()
	line := ""
	switch d := r.Intn(24); {
	case d < 13:
		var ok bool
		for !ok {
			line, ok = lineOf(likelyEvent(t, r, w))
		}
	case d < 15:
		line = "show"
	case d < 16:
		line = "answers"
	case d < 17:
		line = "want " + randomThing(r)
	case d < 19:
		line = fmt.Sprint("calm ", r.Intn(12))
	case d < 20:
		line = "ask " + randomThing(r)
	case d < 21:
		line = "drop " + randomThing(r)
	case d < 23:
		line = twinLine(r, w.Boss.Tree)
	default:
		line = fmt.Sprint("calm ", r.Intn(250))
	}
	if r.Intn(12) > 0 {
		return line
	}
	place := r.Intn(len(line) + 1)
	return line[:place] + []string{" ", "0", "x", `"`, "\\", ";", "\xff"}[r.Intn(7)] + line[min(place+r.Intn(2), len(line)):]
}

// likelySession leads a slow session on by likely lines.
func likelySession(t *testing.T, r *rand.Rand, lines int) talk {
	t.Helper()
	s, k := newSlowTalk(), talk{}
	for _, f := range randomTree(t, r).Files {
		line, _ := lineOfEntry(fileEntry(f.Name, f.Text))
		k.say(line, s.answer(line))
	}
	for range lines {
		line := likelyLine(t, r, s.world)
		k.say(line, s.answer(line))
	}
	return k
}

// TestSessionsByTheWords holds long sessions against the slow one.
func TestSessionsByTheWords(t *testing.T) {
	t.Parallel()
	r := rand.New(rand.NewSource(11))
	seen := map[string]int{}
	for range 100 {
		k := likelySession(t, r, 150)
		checkSaid(t, k.text(len(k.lines)), k.answers)
		for i, line := range k.lines {
			word, _, _ := strings.Cut(line, " ")
			seen[word+" "+k.answers[i]]++
			for _, told := range []string{" right", " doubt"} {
				if strings.Contains(k.answers[i], told) {
					seen[told]++
				}
			}
		}
	}
	for _, want := range []string{"file code 0", "file code 2", "tool code 0", "drop code 0", "drop code 3", "clear code 0", "ask code 0", "ask code 2", "pack code 0", "pack code 2", "pack code 3", "calm no", "answers -", "show down right", " right", " doubt"} {
		if seen[want] == 0 {
			t.Errorf("there is no %q", want)
		}
	}
}

// TestTheFirstLines says that answers do not hang on the lines behind them: each beginning of a session is answered by the beginning of its answers, whatever comes then.
func TestTheFirstLines(t *testing.T) {
	t.Parallel()
	r := rand.New(rand.NewSource(16))
	for range 15 {
		k := likelySession(t, r, 60)
		whole := impl.Session(k.text(len(k.lines)))
		answers := strings.SplitAfter(whole, "\n")
		for n := range len(k.lines) + 1 {
			first := strings.Join(answers[:n], "")
			if got := impl.Session(k.text(n)); got != first {
				t.Fatalf("the first %d lines of %q: %q, want %q", n, k.lines, got, first)
			}
			other := likelySession(t, r, 1)
			if got := impl.Session(k.text(n) + other.text(len(other.lines))); !strings.HasPrefix(got, first) || strings.Count(got, "\n") != n+len(other.lines) {
				t.Fatalf("the first %d lines of %q, and then %q: %q, want %q", n, k.lines, other.lines, got, first)
			}
		}
	}
}

// TestBadLinesChangeNothing puts lines that are none between those of a session.
func TestBadLinesChangeNothing(t *testing.T) {
	t.Parallel()
	r := rand.New(rand.NewSource(21))
	wrong := []string{"", " ", "x", "tick ", " tick", "file a", `file a "x`, "ask", "bring", "bring 00", "calm 10000", "answers 1", `show ""`, "fall 0", "clear all", `drop "a"`, "lose -1"}
	for range 20 {
		k := likelySession(t, r, 80)
		var with talk
		for i, line := range k.lines {
			for range r.Intn(3) {
				with.say(wrong[r.Intn(len(wrong))], "bad")
			}
			with.say(line, k.answers[i])
		}
		checkSaid(t, with.text(len(with.lines)), with.answers)
	}
}

// TestAnyTextIsAnswered has texts of any bytes, and of pieces of lines.
func TestAnyTextIsAnswered(t *testing.T) {
	t.Parallel()
	r := rand.New(rand.NewSource(7))
	pieces := []string{" ", " ", " ", "\n", "\n", "\n", `"`, `"`, "\\", ";", "0", "1", "9999", "a", "x", "plan", "\x00", "\xff", "\\0a", "\\22"}
	for line := range slices.Values(someLines) {
		word, _, _ := strings.Cut(line, " ")
		pieces = append(pieces, word, word+" ", line+"\n", "\n"+line)
	}
	for range 3000 {
		text := randomText(r, 300)
		if r.Intn(10) > 0 {
			text = ""
			for range r.Intn(60) {
				text += pieces[r.Intn(len(pieces))]
			}
		}
		checkByTheWords(t, text)
	}
}

// TestASessionKeepsNothing has the same session twice, and others at the same time.
func TestASessionKeepsNothing(t *testing.T) {
	r := rand.New(rand.NewSource(3))
	var talks []talk
	for range 6 {
		talks = append(talks, likelySession(t, r, 60))
	}
	for range 2 {
		said := make([]string, len(talks))
		done := make(chan int)
		for i, k := range talks {
			go func() {
				said[i] = impl.Session(k.text(len(k.lines)))
				done <- i
			}()
		}
		for range talks {
			<-done
		}
		for i, k := range talks {
			if said[i] != textOf(k.answers) {
				t.Errorf("%q: %q, want %q", k.lines, said[i], k.answers)
			}
		}
	}
}
