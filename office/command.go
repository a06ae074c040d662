package office

import (
	"strconv"
	"strings"

	"snowline/api"
)

// Commands, as their lines say them.
type (
	begin struct{ offices int }
	wait  struct{ days int }
	write struct {
		office int
		form   string
	}
	send struct {
		from, to int
		noise    string
	}
	sendAll struct{}
	crash   struct{ office, calls int }
	reopen  struct {
		office int
		keep   string
	}
	tell struct {
		office int
		about  subject
	}
	// question is a command that changes nothing.
	question struct {
		offices []int
		answer  func(*Model) (string, api.Errno)
	}
)

// readCommand returns the command that a line is, and whether it is one.
func readCommand(line string) (any, bool) {
	words := strings.SplitN(line, " ", mostWords)
	command, x, is := lookUp(commands(), words)
	if !is {
		return nil, false
	}
	return command(x, words), true
}

// commands returns, by its pattern, what each command is with its numbers and its words.
func commands() map[string]func(x []int, words []string) any {
	return map[string]func(x []int, words []string) any{
		"begin OFFICES": func(x []int, _ []string) any { return begin{x[0]} },
		"day DAYS":      func(x []int, _ []string) any { return wait{x[0]} },
		"write P FORM": func(x []int, words []string) any {
			return write{x[0], strings.Join(words[2:], " ")}
		},
		"send P Q DIGITS": func(x []int, words []string) any { return send{x[0], x[1], words[3]} },
		"sendall":         func([]int, []string) any { return sendAll{} },
		"crash P CALLS":   func(x []int, _ []string) any { return crash{x[0], x[1]} },
		"open P DIGITS":   func(x []int, words []string) any { return reopen{x[0], words[2]} },
		"refused P": func(x []int, _ []string) any {
			return question{x, func(y *Model) (string, api.Errno) { return number(y.Refused(x[0])) }}
		},
		"cell P CELL DAY": func(x []int, _ []string) any {
			return question{x[:1], func(y *Model) (string, api.Errno) { return ends(y.Cell(x[0], x[1], x[2])) }}
		},
		"volume P VALLEY DATE": func(x []int, _ []string) any {
			return question{x[:1], func(y *Model) (string, api.Errno) { return ends(y.Volume(x[0], x[1], x[2])) }}
		},
		"tell P VALLEY DATE": func(x []int, _ []string) any { return tell{x[0], subject{x[1], x[2]}} },
		"scenes P": func(x []int, _ []string) any {
			return question{x, func(y *Model) (string, api.Errno) { return count(y.Scenes(x[0])) }}
		},
		"clash P": func(x []int, _ []string) any {
			return question{x, func(y *Model) (string, api.Errno) {
				_, is, e := y.Accused(x[0])
				return yesNo(is, e)
			}}
		},
		"tracks P": func(x []int, _ []string) any {
			return question{x, func(y *Model) (string, api.Errno) { return list(y.Open(x[0])) }}
		},
		"promise P": func(x []int, _ []string) any {
			return question{x, func(y *Model) (string, api.Errno) { return y.promise(x[0]) }}
		},
		"agree P Q": func(x []int, _ []string) any {
			return question{x, func(y *Model) (string, api.Errno) { return yesNo(y.Agree(x[0], x[1])) }}
		},
	}
}

// Outputs. With an error they are empty.

func number(x int, e api.Errno) (string, api.Errno) { return list([]int{x}, e) }

func count[E any](l []E, e api.Errno) (string, api.Errno) { return number(len(l), e) }

func ends(s api.Span, e api.Errno) (string, api.Errno) { return list([]int{s.Lo, s.Hi}, e) }

func list(l []int, e api.Errno) (string, api.Errno) {
	if e != api.OK {
		return "", e
	}
	words := make([]string, len(l))
	for i, x := range l {
		words[i] = strconv.Itoa(x)
	}
	return strings.Join(words, " "), api.OK
}

func yesNo(is bool, e api.Errno) (string, api.Errno) {
	if e != api.OK {
		return "", e
	}
	if is {
		return "yes", api.OK
	}
	return "no", api.OK
}
