package office

import (
	"strconv"
	"strings"

	"snowline/api"
)

// Check returns ErrCommand unless line is a command.
func Check(line string) api.Errno {
	if _, is := readCommand(line); !is {
		return api.ErrCommand
	}
	return api.OK
}

// Lines returns the commands of a script: its lines that are neither empty nor remarks.
func Lines(script string) ([]string, api.Errno) {
	if len(script) > api.MaxText {
		return nil, api.ErrLimit
	}
	var out []string
	for line := range strings.SplitSeq(script, "\n") {
		if line != "" && line[0] != '#' {
			out = append(out, line)
		}
	}
	if len(out) > api.MaxLines {
		return nil, api.ErrLimit
	}
	return out, api.OK
}

// Run executes a script and returns what it prints; if a line is no command, its number.
func Run(script string) (string, int, api.Errno) {
	lines, e := Lines(script)
	if e != api.OK {
		return "", 0, e
	}
	for i, line := range lines {
		if e := Check(line); e != api.OK {
			return "", i, e
		}
	}
	y := New()
	var out strings.Builder
	for _, line := range lines {
		s, e := y.Do(line)
		if e != api.OK {
			s = "error " + strconv.Itoa(int(e))
		}
		out.WriteString(s + "\n")
	}
	return out.String(), 0, api.OK
}
