package clerk

import (
	"slices"
	"strconv"
	"strings"

	"lombard/api"
)

const (
	maxDigits = 10  // of a number
	unread    = -1  // what stands for a number of a half that cannot be read
	blank     = " " // between two tokens
)

// line is a line that is done on a copy of the books.
type line struct {
	books
	text   string
	tokens []string // that are not read yet
	again  bool     // whether it is a line of a journal
}

// require leaves a line by an error unless something holds.
func require(holds bool, e api.Errno) {
	if !holds {
		panic(e)
	}
}

// attempt does a line, and returns its answer, or the error by which it was left. A panic that is no error of a line is a mistake of the program, which must not look as if all were well.
func (x *line) attempt() (answer string, e api.Errno) {
	defer func() {
		switch left := recover().(type) {
		case nil:
		case api.Errno:
			answer, e = "", left
		default:
			answer, e = "", api.ErrArg
		}
	}()
	return x.run(), api.OK
}

// run does a line. The text is copied, since the journal keeps it, and names and words are parts of it.
func (x *line) run() string {
	require(len(x.text) <= api.MaxLine, api.ErrLine)
	x.text = strings.Clone(x.text)
	for token := range strings.SplitSeq(x.text, blank) {
		require(token != "", api.ErrLine)
		x.tokens = append(x.tokens, token)
	}
	command, listed := commands()[x.token()]
	require(listed, api.ErrLine)
	return command(x)
}

// What follows reads the tokens of a line, from the first one on.

func (x *line) token() string {
	require(len(x.tokens) > 0, api.ErrLine)
	token := x.tokens[0]
	x.tokens = x.tokens[1:]
	return token
}

// skip reports whether a token comes next, and goes past it.
func (x *line) skip(token string) bool {
	comes := len(x.tokens) > 0 && x.tokens[0] == token
	if comes {
		x.token()
	}
	return comes
}

// mark goes past a token that must come next.
func (x *line) mark(token string) { require(x.skip(token), api.ErrLine) }

// while reads tokens as long as they fit, at least one.
func (x *line) while(fits func(string) bool) []string {
	n := slices.IndexFunc(x.tokens, func(token string) bool { return !fits(token) })
	if n < 0 {
		n = len(x.tokens)
	}
	require(n > 0, api.ErrLine)
	l := x.tokens[:n]
	x.tokens = x.tokens[n:]
	return l
}

func isAny(string) bool { return true }

// rest reads all tokens that are left, at least one.
func (x *line) rest() []string { return x.while(isAny) }

func areDigits(s string) bool { return strings.Trim(s, "0123456789") == "" }

func isNumber(s string) bool {
	return within(len(s), 1, maxDigits) && areDigits(s) && (s == "0" || s[0] != '0')
}

// numbers returns a function that reads a number each time it is called.
func (x *line) numbers() func() int {
	return func() int {
		token := x.token()
		require(isNumber(token), api.ErrLine)
		n, _ := strconv.Atoi(token)
		return n
	}
}

func (x *line) number() int { return x.numbers()() }

// cutting reads the numbers of an edge, or of a half: one of them for each byte, as far as there is one for it.
func (x *line) cutting(numberOf func(c byte) (n int, there bool)) []int {
	token := x.token()
	require(within(len(token), api.MinEdge, api.MaxEdge), api.ErrLine)
	return each([]byte(token), func(c byte) int {
		n, there := numberOf(c)
		require(there, api.ErrLine)
		return n
	})
}

func digit(c byte) (int, bool) { return int(c - '0'), '0' <= c && c <= '9' }

func digitOrBlank(c byte) (int, bool) {
	if c == '?' {
		return unread, true
	}
	return digit(c)
}

func (x *line) edge() []int { return x.cutting(digit) }

func (x *line) half() []int { return x.cutting(digitOrBlank) }

// asks says that a line ends here, and changes nothing. A journal has no such lines.
func (x *line) asks() { require(len(x.tokens) == 0 && !x.again, api.ErrLine) }

// changes says that a line ends here, and changes something.
func (x *line) changes() {
	require(len(x.tokens) == 0, api.ErrLine)
	require(len(x.journal) < api.MaxLines, api.ErrFull)
	x.journal = append(x.journal, x.text)
}

// answer joins the tokens of an answer.
func answer[T int | string](tokens ...T) string {
	return strings.Join(each(tokens, textOf[T]), blank)
}

func textOf[T int | string](token T) string {
	switch x := any(token).(type) {
	case int:
		return strconv.Itoa(x)
	case string:
		return x
	}
	return ""
}
