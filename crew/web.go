package crew

import (
	"slices"

	"snowline/api"
)

// never stands for the minutes of a walk where there is none: more than any that is quickest takes.
const never = 1 << 30

// web is the quickest walks between all sites, which are given by their indices.
type web struct {
	sites   []api.Site
	tracks  []api.Track
	minutes [api.MaxSites][api.MaxSites]int // of the walk from a site to another one
	first   [api.MaxSites][api.MaxSites]int // the index of its first track, if it has one
}

// newWeb returns the web of a valid range.
func newWeb(sites []api.Site, tracks []api.Track) *web {
	w := &web{sites: sites, tracks: tracks}
	for i := range sites {
		for j := range sites {
			if i != j {
				w.minutes[i][j] = never
			}
		}
	}
	for at, t := range tracks {
		a, b := w.place(t.A), w.place(t.B)
		w.shorten(a, b, t.Minutes, at)
		w.shorten(b, a, t.Minutes, at)
	}
	for by := range sites {
		for i := range sites {
			for j := range sites {
				w.shorten(i, j, w.minutes[i][by]+w.minutes[by][j], w.first[i][by])
			}
		}
	}
	return w
}

// newOpenWeb returns the web of the tracks of r that are safe on a day; areRight tells whether the arguments beside these are as they have to be.
func newOpenWeb(r api.Range, s api.Scene, day int, areRight bool) (*web, api.Errno) {
	most, e := newSnow(r, s, day, areRight)
	if e != api.OK {
		return nil, e
	}
	return newWeb(r.Sites, most.safe(r.Tracks)), api.OK
}

// shorten notes a walk from i to j, if none that is as quick has been noted.
func (w *web) shorten(i, j, minutes, first int) {
	if minutes < w.minutes[i][j] {
		w.minutes[i][j], w.first[i][j] = minutes, first
	}
}

// place returns the index of the site with a No.
func (w *web) place(no int) int {
	return slices.IndexFunc(w.sites, func(x api.Site) bool { return x.No == no })
}

// walk returns the numbers of the tracks from i to j; there has to be such a walk.
func (w *web) walk(i, j int) []int {
	var l []int
	for i != j {
		t := w.tracks[w.first[i][j]]
		l = append(l, t.No)
		if w.place(t.A) == i {
			i = w.place(t.B)
		} else {
			i = w.place(t.A)
		}
	}
	return l
}

// nearestHut returns the index of the hut that is nearest to a site, and the minutes of the walk to it: never, if no walk leads to a hut.
func (w *web) nearestHut(from int) (hut, minutes int) {
	minutes = never
	for i, x := range w.sites {
		if x.Kind == api.HutT && w.minutes[from][i] < minutes {
			hut, minutes = i, w.minutes[from][i]
		}
	}
	return hut, minutes
}

// numbersWhere returns the No of the sites whose indices fulfil a condition.
func (w *web) numbersWhere(is func(i int) bool) []int {
	var l []int
	for i, x := range w.sites {
		if is(i) {
			l = append(l, x.No)
		}
	}
	return l
}
