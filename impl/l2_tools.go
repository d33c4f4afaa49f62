package impl

import (
	"strconv"
	"strings"
)

// Limits of tools and runs.
const (
	MaxName  = 20
	MaxText  = 300
	MaxIns   = 40
	MaxSteps = 200
	MaxLooks = 15
)

// Ops of instructions.
const (
	InLit  = 1
	InArg  = 2
	InAsk  = 3
	InHas  = 4
	InPut  = 5
	InCat  = 6
	InLine = 7
	InIf   = 8
	InGo   = 9
	InEnd  = 10
	InFail = 11
)

// Codes of what a thing has come to.
const (
	Done    = 0
	Failed  = 1
	Broken  = 2
	Spent   = 3
	Missing = 4
	Below   = 5
	Circle  = 6
	NoTool  = 7
)

// Ins is an instruction.
type Ins struct {
	Op   int
	Text string
	To   int
}

// Tool is instructions.
type Tool struct {
	Code []Ins
}

// Result is what a thing has come to.
type Result struct {
	Code int
	Text string
}

// Turn is what a run comes to with its first replies.
type Turn struct {
	Over   bool
	Result Result
	Has    bool
	Name   string
	Steps  int
}

// shape tells how an instruction is written: its word, then To and Text, where it uses them.
type shape struct {
	word     string
	usesTo   bool
	usesText bool
}

// shapes are the shapes of instructions by their Op.
var shapes = [InFail + 1]shape{
	InLit:  {"lit", false, true},
	InArg:  {"arg", false, false},
	InAsk:  {"ask", false, false},
	InHas:  {"has", false, false},
	InPut:  {"put", false, false},
	InCat:  {"cat", false, true},
	InLine: {"line", true, false},
	InIf:   {"if", true, true},
	InGo:   {"go", true, false},
	InEnd:  {"end", false, false},
	InFail: {"fail", false, false},
}

// FormTool writes a tool.
func FormTool(t Tool) string {
	if !isTool(t) {
		return ""
	}
	var form strings.Builder
	for _, in := range t.Code {
		form.WriteString(formIns(in))
	}
	if form.Len() > MaxText {
		return ""
	}
	return form.String()
}

// ReadTool reads a tool.
func ReadTool(s string) (Tool, bool) {
	if len(s) > MaxText {
		return Tool{}, false
	}
	var t Tool
	for rest := s; rest != ""; {
		line, behind, ended := strings.Cut(rest, "\n")
		in, ok := readIns(line)
		if !ended || !ok {
			return Tool{}, false
		}
		t.Code = append(t.Code, in)
		rest = behind
	}
	if !isTool(t) {
		return Tool{}, false
	}
	return t, true
}

// ValidResult says whether a result is valid.
func ValidResult(r Result) bool {
	switch r.Code {
	case Done, Failed:
		return len(r.Text) <= MaxText
	case Broken:
		_, ok := readNumber(r.Text, MaxIns)
		return ok
	case Spent:
		return r.Text == ""
	case Missing, Below, NoTool:
		return isName(r.Text) // the ? of a Missing is a name, too
	}
	return false
}

// Next tells what a run comes to.
func Next(t Tool, arg string, replies []Result) Turn {
	if !isTool(t) || len(arg) > MaxText || len(replies) > MaxLooks-1 {
		return Turn{}
	}
	for _, reply := range replies {
		if !ValidResult(reply) {
			return Turn{}
		}
	}
	r := toolRun{arg: arg, replies: replies}
	r.run(t.Code)
	return r.turn
}

func isName(text string) bool {
	if len(text) < 1 || len(text) > MaxName {
		return false
	}
	for i := range len(text) {
		if text[i] < 33 || text[i] > 126 {
			return false
		}
	}
	return true
}

func isTool(t Tool) bool {
	if len(t.Code) < 1 || len(t.Code) > MaxIns {
		return false
	}
	for _, in := range t.Code {
		if !isIns(in) {
			return false
		}
	}
	return true
}

func isIns(in Ins) bool {
	if in.Op < InLit || in.Op > InFail {
		return false
	}
	s := shapes[in.Op]
	if !s.usesTo && in.To != 0 || !s.usesText && in.Text != "" {
		return false
	}
	return in.To >= 0 && in.To <= MaxIns && len(in.Text) <= MaxText
}

func formIns(in Ins) string {
	s := shapes[in.Op]
	line := s.word
	if s.usesTo {
		line += " " + strconv.Itoa(in.To)
	}
	if s.usesText {
		line += " " + quote(in.Text)
	}
	return line + "\n"
}

func readIns(line string) (Ins, bool) {
	word, _, _ := strings.Cut(line, " ")
	op, ok := opOfWord(word)
	if !ok {
		return Ins{}, false
	}
	s := shapes[op]
	count := 1
	if s.usesTo {
		count++
	}
	if s.usesText {
		count++
	}
	// The last part takes the rest of the line: a text in quotes may hold spaces, and a line without parts must be its word.
	parts := strings.SplitN(line, " ", count)
	if len(parts) != count || parts[0] != word {
		return Ins{}, false
	}
	in := Ins{Op: op}
	if s.usesTo {
		in.To, ok = readNumber(parts[1], MaxIns)
	}
	if ok && s.usesText {
		in.Text, ok = unquote(parts[count-1])
	}
	return in, ok
}

func opOfWord(word string) (int, bool) {
	for op := InLit; op <= InFail; op++ {
		if shapes[op].word == word {
			return op, true
		}
	}
	return 0, false
}

// readNumber reads a decimal without needless zeros, from 0 to most.
func readNumber(text string, most int) (int, bool) {
	if text == "" || text[0] == '0' && text != "0" {
		return 0, false
	}
	number := 0
	for i := range len(text) {
		if text[i] < '0' || text[i] > '9' {
			return 0, false
		}
		number = number*10 + int(text[i]-'0')
		if number > most { // asked at each digit, so that no number wraps round
			return 0, false
		}
	}
	return number, true
}

const hexDigits = "0123456789abcdef"

// standsForItself says whether a byte is written as it is between quotes.
func standsForItself(c byte) bool {
	return c >= 32 && c <= 126 && c != '"' && c != '\\'
}

func quote(text string) string {
	var q strings.Builder
	q.WriteByte('"')
	for i := range len(text) {
		c := text[i]
		if standsForItself(c) {
			q.WriteByte(c)
			continue
		}
		q.WriteByte('\\')
		q.WriteByte(hexDigits[c>>4])
		q.WriteByte(hexDigits[c&15])
	}
	q.WriteByte('"')
	return q.String()
}

// unquote reads what quote writes, and nothing else.
func unquote(q string) (string, bool) {
	if len(q) < 2 || q[0] != '"' || q[len(q)-1] != '"' {
		return "", false
	}
	inner := q[1 : len(q)-1]
	var text strings.Builder
	for i := 0; i < len(inner); {
		if standsForItself(inner[i]) {
			text.WriteByte(inner[i])
			i++
			continue
		}
		c, ok := unescape(inner[i:])
		if !ok {
			return "", false
		}
		text.WriteByte(c)
		i += 3
	}
	return text.String(), true
}

// unescape reads a backslash and two digits; a byte that stands for itself has no such form.
func unescape(s string) (byte, bool) {
	if len(s) < 3 || s[0] != '\\' {
		return 0, false
	}
	high := strings.IndexByte(hexDigits, s[1])
	low := strings.IndexByte(hexDigits, s[2])
	if high < 0 || low < 0 {
		return 0, false
	}
	c := byte(high<<4 | low)
	if standsForItself(c) {
		return 0, false
	}
	return c, true
}

// toolRun is a run of a tool; what it has built is its out.
type toolRun struct {
	strings.Builder
	hand    string
	arg     string
	replies []Result
	looks   int
	place   int
	next    int
	halted  bool
	turn    Turn
}

// actions are the instructions of a run by their Op.
func (r *toolRun) actions() [InFail + 1]func(Ins) {
	return [InFail + 1]func(Ins){
		InLit:  r.takeText,
		InArg:  r.takeArg,
		InAsk:  r.ask,
		InHas:  r.has,
		InPut:  r.put,
		InCat:  r.cat,
		InLine: r.takeLine,
		InIf:   r.jumpIf,
		InGo:   r.jump,
		InEnd:  r.end,
		InFail: r.fail,
	}
}

func (r *toolRun) run(code []Ins) {
	actions := r.actions()
	for !r.halted {
		if r.place >= len(code) { // ahead of the steps: where there is no instruction, no step would be begun
			r.breakHere()
			return
		}
		if r.turn.Steps == MaxSteps {
			r.finish(Spent, "")
			return
		}
		r.turn.Steps++
		r.next = r.place + 1
		in := code[r.place]
		actions[in.Op](in)
		r.place = r.next
	}
}

func (r *toolRun) finish(code int, text string) {
	r.halted = true
	r.turn.Over = true
	r.turn.Result = Result{Code: code, Text: text}
}

func (r *toolRun) breakHere() {
	r.finish(Broken, strconv.Itoa(r.place))
}

func (r *toolRun) stopAtLook(has bool) {
	r.halted = true
	r.turn.Has = has
	r.turn.Name = r.hand
}

// look gives the reply to a look for the hand; false if the run has halted there.
func (r *toolRun) look(has bool) (Result, bool) {
	switch {
	case !isName(r.hand): // ahead of the count: this is no look
		r.finish(Missing, "?")
	case r.looks == MaxLooks-1:
		r.finish(Spent, "")
	case r.looks == len(r.replies):
		r.stopAtLook(has)
	default:
		reply := r.replies[r.looks]
		r.looks++
		return reply, true
	}
	return Result{}, false
}

func (r *toolRun) takeText(in Ins) {
	r.hand = in.Text
}

func (r *toolRun) takeArg(_ Ins) {
	r.hand = r.arg
}

func (r *toolRun) ask(_ Ins) {
	reply, ok := r.look(false)
	if !ok {
		return
	}
	switch reply.Code {
	case Done:
		r.hand = reply.Text
	case Missing:
		r.finish(Missing, r.hand)
	default:
		r.finish(Below, r.hand)
	}
}

func (r *toolRun) has(_ Ins) {
	reply, ok := r.look(true)
	if !ok {
		return
	}
	r.hand = "1"
	if reply.Code == Missing {
		r.hand = "0"
	}
}

func (r *toolRun) put(_ Ins) {
	if r.Len()+len(r.hand) > MaxText {
		r.breakHere()
		return
	}
	r.WriteString(r.hand)
}

func (r *toolRun) cat(in Ins) {
	if len(r.hand)+len(in.Text) > MaxText {
		r.breakHere()
		return
	}
	r.hand += in.Text
}

func (r *toolRun) takeLine(in Ins) {
	lines := strings.Split(r.hand, "\n")
	r.hand = ""
	if in.To < len(lines) {
		r.hand = lines[in.To]
	}
}

func (r *toolRun) jumpIf(in Ins) {
	if r.hand == in.Text {
		r.next = in.To
	}
}

func (r *toolRun) jump(in Ins) {
	r.next = in.To
}

func (r *toolRun) end(_ Ins) {
	r.finish(Done, r.String())
}

func (r *toolRun) fail(_ Ins) {
	r.finish(Failed, r.hand)
}
