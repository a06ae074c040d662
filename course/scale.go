package course

import "snowline/api"

// CheckTest returns ErrTest unless t is valid.
func CheckTest(t api.Test) api.Errno {
	if !isDay(t.Day) || !isDay(t.Known) || !isDrift(t.Lo) || !isDrift(t.Hi) || t.Lo > t.Hi {
		return api.ErrTest
	}
	return api.OK
}

// CheckScale returns ErrScale unless s is valid, and ErrApart if its tests contradict each other.
func CheckScale(s api.Scale) api.Errno {
	_, is, e := Apart(s)
	if e != api.OK {
		return e
	}
	if is {
		return api.ErrApart
	}
	return api.OK
}

// Apart returns two tests of s that contradict each other, and whether there are such.
func Apart(s api.Scale) ([2]int, bool, api.Errno) {
	if !validScale(s) {
		return [2]int{}, false, api.ErrScale
	}
	pair, is := firstApart(s.Rate, s.Tests)
	return pair, is, api.OK
}

// AddTest returns s with a further test.
func AddTest(s api.Scale, t api.Test) (api.Scale, api.Errno) {
	if e := checkAdd(s, t); e != api.OK {
		return api.Scale{}, e
	}
	tests := make([]api.Test, 0, len(s.Tests)+1)
	tests = append(tests, s.Tests...)
	tests = append(tests, t)
	return api.Scale{No: s.No, Rate: s.Rate, Tests: tests}, api.OK
}

func checkAdd(s api.Scale, t api.Test) api.Errno {
	if e := CheckScale(s); e != api.OK {
		return e
	}
	if e := CheckTest(t); e != api.OK {
		return e
	}
	n := len(s.Tests)
	if n == api.MaxTests {
		return api.ErrLimit
	}
	if n > 0 && t.Known < s.Tests[n-1].Known {
		return api.ErrArg
	}
	for _, x := range s.Tests {
		if contradict(s.Rate, x, t) {
			return api.ErrApart
		}
	}
	return api.OK
}

func validScale(s api.Scale) bool {
	if !isNo(s.No) || s.Rate < 0 || s.Rate > api.MaxRate || len(s.Tests) > api.MaxTests {
		return false
	}
	for i, t := range s.Tests {
		if CheckTest(t) != api.OK || i > 0 && t.Known < s.Tests[i-1].Known {
			return false
		}
	}
	return true
}

// firstApart returns the indices of the first two tests of l that contradict each other, and whether there are such.
func firstApart(rate int, l []api.Test) ([2]int, bool) {
	for i, a := range l {
		for j, b := range l[i+1:] {
			if contradict(rate, a, b) {
				return [2]int{i, i + 1 + j}, true
			}
		}
	}
	return [2]int{}, false
}

func contradict(rate int, a, b api.Test) bool {
	return ends(a.Lo-b.Hi, b.Lo-a.Hi).Hi > reach(rate, a.Day, b.Day)
}

// reach returns by how much the drift can change at most between two days.
func reach(rate, a, b int) int {
	days := ends(a, b)
	return rate * (days.Hi - days.Lo)
}
