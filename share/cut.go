package share

import "snowline/api"

// Lacks returns a cut that proves that volumes cannot be taken together, and whether there is one.
func Lacks(s api.Share, volumes []int) (api.Cut, bool, api.Errno) {
	if e := checkVolumes(s, volumes); e != api.OK {
		return api.Cut{}, false, e
	}
	w, reached, all := take(s, volumes)
	if all {
		return api.Cut{}, false, api.OK
	}
	// Where no more water could flow to, all that comes is taken, and it is not enough.
	var x api.Cut
	for i := range s.Rights {
		x.Rights = append(x.Rights, reached[w.rightNode(i)] == 0)
	}
	for i := range s.Supplies {
		x.Nodes = append(x.Nodes, reached[w.supplyNode(i)] == 0)
	}
	return x, true, api.OK
}

// CheckLacks returns ErrPlan unless a cut proves that.
func CheckLacks(s api.Share, volumes []int, x api.Cut) api.Errno {
	if e := checkVolumes(s, volumes); e != api.OK {
		return e
	}
	if len(x.Rights) != len(s.Rights) || len(x.Nodes) != len(s.Supplies) || !isClosed(s, x) {
		return api.ErrPlan
	}
	sum := 0
	for i, is := range x.Rights {
		if is {
			sum += volumes[i]
		}
	}
	if sum <= bound(s, x) {
		return api.ErrPlan
	}
	return api.OK
}

// isClosed reports whether the rights of a cut may take water only from its supplies.
func isClosed(s api.Share, x api.Cut) bool {
	for i, right := range s.Rights {
		for j, supply := range s.Supplies {
			if x.Rights[i] && !x.Nodes[j] && mayTake(right, supply) {
				return false
			}
		}
	}
	return true
}

// bound returns how much can be taken from the supplies of a cut.
func bound(s api.Share, x api.Cut) int {
	sum := 0
	for i, supply := range s.Supplies {
		if !x.Nodes[i] {
			continue
		}
		sum += supply.Volume
		if i > 0 && !x.Nodes[i-1] {
			sum += keeps(s, i)
		}
	}
	return sum
}
