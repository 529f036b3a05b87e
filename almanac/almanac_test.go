package almanac_test

import (
	"fmt"
	"math"
	"slices"
	"strconv"
	"testing"

	"ephemeris/almanac"
	"ephemeris/amanta"
	"ephemeris/api"
	"ephemeris/civil"
	"ephemeris/cut"
	"ephemeris/orb"
	"ephemeris/place"
	"ephemeris/rat"
	"ephemeris/rise"
	"ephemeris/seek"
)

// ticks is how many there are in a day: each end of a part is told to one of them, the
// Sign's to signTicks.
const (
	ticks     = 1 << 23
	signTicks = 4
)

// The places that may be, at their edges: far to the north and to the south, far to the
// east and to the west of Ujjain; and others.
func ujjain() place.Place    { return place.Ujjain() }
func northEast() place.Place { return place.Place{Lat: 60, LatOver: 1, Lon: 180, LonOver: 1} }
func southWest() place.Place { return place.Place{Lat: -60, LatOver: 1, Lon: -180, LonOver: 1} }
func northWest() place.Place { return place.Place{Lat: 60, LatOver: 1, Lon: -180, LonOver: 1} }
func southEast() place.Place { return place.Place{Lat: -60, LatOver: 1, Lon: 180, LonOver: 1} }
func equator() place.Place   { return place.Place{LatOver: 1, LonOver: 1} }
func north() place.Place     { return place.Place{Lat: 216000, LatOver: 3600, Lon: 45461, LonOver: 600} }
func middle() place.Place    { return place.Place{Lat: -7, LatOver: 3600, Lon: -647999, LonOver: 3600} }

func places() []place.Place {
	return []place.Place{ujjain(), northEast(), southWest(), northWest(), southEast(), equator(), north(), middle()}
}

// kinds are those of parts, in their order.
func kinds() []int { return []int{seek.Tithi, seek.Star, seek.Yoga, seek.Half, seek.Sign} }

// width is how many ticks both ends of a kind's part are apart.
func width(kind int) int64 {
	if kind == seek.Sign {
		return signTicks
	}
	return 1
}

// since is how long x is behind the beginning of day n, in so many parts of a day.
func since(n int64, x rat.Rat, parts int64) string {
	return cut.Text(x.Sub(rat.Whole(n)).Mul(rat.Whole(parts)))
}

// text is a day's, but for its number: its weekday; Sunrise, Sunset and Next, in grains
// behind its beginning; its parts: kind.index@Right, in ticks behind its beginning, and,
// if Left isn't just its width ahead of it, that too.
func text(d almanac.Day) string {
	s := strconv.Itoa(d.Weekday)
	for _, x := range []rat.Rat{d.Sunrise, d.Sunset, d.Next} {
		s += " " + since(d.Number, x, rise.Grains)
	}
	for _, q := range d.Parts {
		s += fmt.Sprintf(" %d.%d@%s", q.Kind, q.Index, since(d.Number, q.Right, ticks))
		if !q.Right.Sub(q.Left).Same(rat.Of(width(q.Kind), ticks)) {
			s += " from " + since(d.Number, q.Left, ticks)
		}
	}
	return s
}

// is fails if a day, which may be, is another one.
func is(t *testing.T, day int64, p place.Place, want string) almanac.Day {
	t.Helper()
	d, errno := almanac.Of(day, p)
	if errno != api.OK || d.Number != day || text(d) != want {
		t.Errorf("at %s, Of %d: %d, %d:\n%s, not\n%s", p.Text(), day, errno, d.Number, text(d), want)
	}
	return d
}

// eachPlace goes through the places, all at once, and beside other tests.
func eachPlace(t *testing.T, check func(t *testing.T, i int, p place.Place)) {
	t.Parallel()
	for i, p := range places() {
		t.Run("at "+p.Text(), func(t *testing.T) {
			t.Parallel()
			check(t, i, p)
		})
	}
}

// known are days that were reckoned elsewhere: of both ends of the days that may be, at
// each place; around day 0, and below; with each number of parts of each kind; and such
// in which the sun enters a sign, between those on either side.
var known = []struct {
	p    place.Place
	day  int64
	text string
}{
	{ujjain(), 730120, "6 294183 757193 1342762 1.24@4566727 1.25@13445313 2.14@7199380 2.15@16289783 3.6@5272515 3.7@13634450 4.49@4566727 4.50@8987356 4.51@13445313"},
	{ujjain(), -3000000, "4 235063 803862 1284017 1.1@5477360 1.2@14468845 2.13@8736197 2.14@17957915 3.25@9818894 3.26@18356808 4.3@5477360 4.4@9958560 4.5@14468845"},
	{ujjain(), 3000000, "3 237197 819014 1285427 1.5@5450584 1.6@13062864 2.9@8134888 2.10@16003324 3.13@6032743 3.14@13424097 4.11@5450584 4.12@9266178 4.13@13062864"},
	{northEast(), -3000000, "4 -138782 570513 911684 1.1@5477360 1.2@14468845 2.12@-371955 2.13@8736197 3.24@1368602 3.25@9818894 4.2@1029605 4.3@5477360 4.4@9958560"},
	{northEast(), 3000000, "3 -162775 611793 884342 1.5@5450584 1.6@13062864 2.8@193074 2.9@8134888 3.13@6032743 3.14@13424097 4.10@1615792 4.11@5450584 4.12@9266178"},
	{southWest(), -3000000, "4 1093382 1435500 2140018 1.2@14468845 1.3@23550518 2.14@17957915 3.25@9818894 3.26@18356808 4.4@9958560 4.5@14468845 4.6@19001061"},
	{southWest(), 3000000, "3 1134598 1411572 2184435 1.6@13062864 1.7@20619822 2.10@16003324 2.11@23825050 3.14@13424097 3.15@20770778 4.12@9266178 4.13@13062864 4.14@16846973 4.15@20619822"},
	{northWest(), -3000000, "4 909794 1619089 1960260 1.2@14468845 1.3@23550518 2.13@8736197 2.14@17957915 3.25@9818894 3.26@18356808 4.4@9958560 4.5@14468845 4.6@19001061"},
	{northWest(), 3000000, "3 885801 1660369 1932918 1.6@13062864 1.7@20619822 2.9@8134888 2.10@16003324 3.14@13424097 3.15@20770778 4.12@9266178 4.13@13062864 4.14@16846973"},
	{southEast(), -3000000, "4 44806 386924 1091442 1.1@5477360 1.2@14468845 2.13@8736197 3.24@1368602 3.25@9818894 4.2@1029605 4.3@5477360 4.4@9958560"},
	{southEast(), 3000000, "3 86022 362996 1135859 1.5@5450584 1.6@13062864 2.9@8134888 2.10@16003324 3.13@6032743 3.14@13424097 4.10@1615792 4.11@5450584 4.12@9266178"},
	{equator(), -3000000, "4 477300 1003007 1525851 1.1@5477360 1.2@14468845 2.13@8736197 2.14@17957915 3.25@9818894 3.26@18356808 4.3@5477360 4.4@9958560 4.5@14468845"},
	{equator(), 3000000, "3 485911 1011683 1534389 1.5@5450584 1.6@13062864 2.9@8134888 2.10@16003324 3.13@6032743 3.14@13424097 4.11@5450584 4.12@9266178 4.13@13062864"},
	{north(), -3000000, "4 164815 874110 1215281 1.1@5477360 1.2@14468845 2.13@8736197 2.14@17957915 3.24@1368602 3.25@9818894 4.3@5477360 4.4@9958560"},
	{north(), 3000000, "3 140822 915390 1187938 1.5@5450584 1.6@13062864 2.9@8134888 2.10@16003324 3.13@6032743 3.14@13424097 4.10@1615792 4.11@5450584 4.12@9266178 4.13@13062864"},
	{middle(), -3000000, "4 1001589 1527292 2050140 1.2@14468845 1.3@23550518 2.13@8736197 2.14@17957915 3.25@9818894 3.26@18356808 4.4@9958560 4.5@14468845 4.6@19001061"},
	{middle(), 3000000, "3 1010201 1535968 2058678 1.6@13062864 1.7@20619822 2.9@8134888 2.10@16003324 2.11@23825050 3.14@13424097 3.15@20770778 4.12@9266178 4.13@13062864 4.14@16846973"},
	{ujjain(), -1, "6 297395 760829 1345952 1.17@4612376 1.18@12380638 2.10@6177664 2.11@14203276 3.5@9026222 3.6@16536240 4.35@4612376 4.36@8483809 4.37@12380638"},
	{ujjain(), 0, "0 297376 761032 1345903 1.18@3992030 1.19@11875800 2.11@5814668 2.12@13958495 3.6@8147632 3.7@15760271 4.37@3992030 4.38@7918565 4.39@11875800"},
	{ujjain(), 1, "1 297327 761272 1345845 1.19@3487192 1.20@11513330 2.12@5569887 2.13@13858759 3.7@7371663 3.8@15101764 4.39@3487192 4.40@7481550 4.41@11513330"},
	{ujjain(), -7, "0 297302 759712 1345915 1.11@9311316 1.12@16941265 2.4@9408902 2.5@17276958 3.25@8018876 3.26@15370732 4.22@5470883 4.23@9311316 4.24@13133719"},
	{equator(), 0, "0 486957 1012834 1535628 1.18@3992030 1.19@11875800 1.20@19901938 2.11@5814668 2.12@13958495 3.6@8147632 3.7@15760271 4.37@3992030 4.38@7918565 4.39@11875800 4.40@15870158"},
	{ujjain(), -1132959, "5 267856 795601 1315915 1.0@6292088 1.1@14766142 2.0@5309988 2.1@13993070 3.0@3670715 3.1@11706624 4.1@6292088 4.2@10507148 4.3@14766142"},
	{northEast(), -1132960, "4 -36986 493297 1009567 1.29@6382995 1.0@14680696 2.26@5189296 2.0@13698596 3.26@4161305 3.0@12059323 4.58@2299948 4.59@6382995 4.0@10509202"},
	{equator(), -1734586, "0 488998 1014641 1537631 1.0@8973348 1.1@17543938 2.24@11311648 2.25@20132795 3.20@4460447 3.21@12509031 4.0@4757568 4.1@8973348 4.2@13235828"},
	{northEast(), 624675, "2 -94049 549705 952475 1.2@3325045 1.3@12232735 2.3@7568217 2.4@16615110 3.3@154727 3.4@8638395 4.5@3325045 4.6@7796535"},
	{middle(), 791219, "2 1014025 1539631 2062583 1.24@10461506 1.25@18572710 2.22@15705512 2.23@23961912 3.21@8505878 3.22@16325137 3.23@24019604 4.49@10461506 4.50@14537692 4.51@18572710"},
	{northEast(), 1141397, "5 104470 338698 1153457 1.29@7238208 1.0@15673915 2.18@8119254 2.19@16770650 3.9@986272 3.10@8872274 3.11@16897694 4.58@3088684 4.59@7238208 4.0@11432650"},
	{north(), 778971, "4 268021 770607 1318594 1.2@6269676 1.3@14587437 2.14@7636639 2.15@16216029 3.26@6448681 3.0@14397706 4.4@2174294 4.5@6269676 4.6@10406413 4.7@14587437"},
	{southWest(), -2077855, "4 1103251 1447462 2153573 1.25@17704021 2.24@10509990 2.25@19778282 3.0@16408402 3.1@24953807 4.50@13173011 4.51@17704021"},
	{southWest(), 666127, "0 957264 1571674 2003816 1.24@8423305 1.25@15974705 1.26@23526261 2.9@14561212 2.10@22365547 3.22@8950682 3.23@16249159 4.49@8423305 4.50@12201179 4.51@15974705 4.52@19748377"},
	{equator(), 977470, "4 489449 1015086 1538051 1.26@8178941 1.27@15895543 2.21@9324228 2.22@17302557 3.18@5142905 3.19@12547350 4.52@4353219 4.53@8178941 4.54@12024986 4.55@15895543"},
	{southEast(), -2279548, "2 -100956 556642 949693 1.24@4287380 1.25@12528619 2.19@7729692 3.16@6733994 3.17@14561803 4.48@100757 4.49@4287380 4.50@8428784"},
	{equator(), 2338861, "0 487667 1013246 1536166 1.27@4282195 1.28@12030398 1.29@19895418 2.0@4496014 2.1@12518473 3.3@6176815 3.4@13699134 4.55@4282195 4.56@8144312 4.57@12030398 4.58@15945943"},
	{ujjain(), 673247, "1 257118 806278 1305182 1.27@6337440 1.28@15165819 2.25@10651196 3.25@7657303 3.26@16046949 4.55@6337440 4.56@10733419"},
	{northWest(), 653575, "6 874160 1672508 1921577 1.23@13067625 1.24@22147712 2.25@15581049 3.2@14287299 3.3@22902922 4.46@8550583 4.47@13067625 4.48@17602387"},
	{middle(), 367076, "3 1010327 1536214 2059009 1.29@8277472 1.0@15877502 1.1@23443675 2.20@8110022 2.21@15950881 2.22@23758781 3.15@15284471 3.16@22575394 4.59@8277472 4.0@12083945 4.1@15877502 4.2@19663158"},
	{southWest(), 1956092, "5 1088806 1456829 2139155 1.4@12239121 1.5@19967944 2.8@12826105 2.9@20821691 3.12@9564265 3.13@17090411 3.14@24536092 4.9@12239121 4.10@16116102 4.11@19967944"},
	{southWest(), 635980, "2 1038214 1515605 2088769 1.28@14228647 1.29@21842600 2.24@8587258 2.25@16512334 2.26@24369694 3.24@11846712 3.25@19230920 4.56@10394415 4.57@14228647 4.58@18043691"},
	{northEast(), -2053346, "6 -182682 629802 865133 1.22@3442718 1.23@10969589 2.24@-1069873 2.25@6755785 2.26@14558930 3.2@123270 3.3@7457585 4.44@-331729 4.45@3442718 4.46@7208966"},
	{southWest(), -731334, "5 993518 1537141 2040103 1.9@8017893 1.10@15683576 1.11@23286528 2.24@14834069 2.25@22688354 3.12@13360297 3.13@20705517 4.19@8017893 4.20@11860702 4.21@15683576 4.22@19490799"},
	{southEast(), -1030476, "1 -89941 524101 956612 1.12@7899980 2.26@5955117 2.0@15179203 3.14@1737947 3.15@10286143 4.24@3349151 4.25@7899980"},
	{southEast(), 722132, "5 -104709 558330 946024 1.9@7615067 2.3@-555571 2.4@8714680 3.26@1083673 3.0@9644447 4.18@3056760 4.19@7615067"},
	{north(), 1648572, "2 121035 928990 1168653 1.15@1146142 1.16@10164728 2.20@3772168 2.21@13031197 3.0@9455847 4.31@1146142 4.32@5644895 4.33@10164728"},
	{ujjain(), 628117, "0 255188 783483 1304249 1.20@9934665 1.21@19002668 2.3@10737060 3.15@10560014 4.40@5378136 4.41@9934665 4.42@14478307"},
	{equator(), 727118, "0 477216 1002841 1525810 1.5@10399600 1.6@19485316 2.17@4939393 2.18@14157696 3.4@12218261 4.10@5888184 4.11@10399600 4.12@14933062"},
	{ujjain(), 723952, "5 286278 773538 1334501 1.28@9349070 1.29@18440778 2.20@4519376 2.21@13805534 3.16@9872751 3.17@18409108 4.56@4779643 4.57@9349070 4.58@13904935"},
	{ujjain(), 723953, "6 285925 774064 1334151 1.29@10052170 1.0@19042023 2.21@5416926 2.22@14629751 3.17@10020500 3.18@18482846 4.58@5516327 4.59@10052170 4.0@14562827 0.9@9846700"},
	{ujjain(), 723954, "0 285575 774586 1333777 1.0@10653415 1.1@19503165 2.22@6241143 2.23@15336272 3.18@10094238 3.19@18452196 4.0@6174219 4.1@10653415 4.2@15096968"},
	{northWest(), -21116, "3 1036043 1517595 2082594 1.17@15508583 1.18@23242694 2.15@14276023 2.16@22280496 3.15@14708494 3.16@22187176 4.34@11602842 4.35@15508583 4.36@19388092"},
	{northWest(), -21115, "4 1034018 1519585 2080579 1.18@14854086 1.19@22498667 2.16@13891888 2.17@21806537 3.16@13798568 3.17@21203567 4.36@10999484 4.37@14854086 4.38@18685777 0.11@12458924"},
	{northWest(), -21114, "5 1032003 1521566 2078569 1.19@14110059 1.20@21691860 2.17@13417929 2.18@21268745 3.17@12814959 3.18@20166282 4.38@10297169 4.39@14110059 4.40@17906550"},
	{southEast(), 1000000, "1 -143850 578553 902937 1.23@1716089 1.24@10060115 2.9@-439139 2.10@8155481 3.25@2533994 3.26@10464088 4.47@1716089 4.48@5910163 4.49@10060115"},
	{southEast(), 1000001, "2 -145639 580493 901142 1.24@1671507 1.25@9843815 2.10@-233127 2.11@8193982 3.26@2075480 3.0@9871984 4.49@1671507 4.50@5779855 4.51@9843815 0.6@4513236"},
	{southEast(), 1000002, "3 -147434 582439 899337 1.25@1455207 1.26@9471012 2.11@-194626 2.12@8072863 3.0@1483376 3.1@9155507 4.51@1455207 4.52@5481178 4.53@9471012"},
	{middle(), -2499971, "2 1001853 1527550 2050399 1.19@9442464 1.20@17834271 2.1@8357000 2.2@16957632 3.13@15401993 3.14@23521221 4.39@9442464 4.40@13616672 4.41@17834271"},
	{middle(), -2499970, "3 1001823 1527520 2050368 1.20@9445663 1.21@18014175 2.2@8569024 2.3@17345809 3.14@15132613 3.15@23389901 4.41@9445663 4.42@13707257 4.43@18014175 0.4@15100824"},
	{middle(), -2499969, "4 1001792 1527490 2050327 1.21@9625567 1.22@18371933 2.3@8957201 2.4@17903718 3.15@15001293 3.16@23382821 4.43@9625567 4.44@13977965 4.45@18371933"},
}

// P24.1, Of: the whole day; each number of parts is there.
func TestKnown(t *testing.T) {
	seen := map[[2]int]int{}
	for _, c := range known {
		d := is(t, c.day, c.p, c.text)
		for _, kind := range kinds() {
			seen[[2]int{kind, len(d.Of(kind))}]++
		}
	}
	for _, c := range [][2]int{
		{seek.Tithi, 1}, {seek.Tithi, 2}, {seek.Tithi, 3}, {seek.Star, 1}, {seek.Star, 2}, {seek.Star, 3}, {seek.Yoga, 1}, {seek.Yoga, 2}, {seek.Yoga, 3},
		{seek.Half, 2}, {seek.Half, 3}, {seek.Half, 4}, {seek.Sign, 0}, {seek.Sign, 1},
	} {
		if seen[c] < 3 {
			t.Errorf("%d parts of kind %d: on %d days", c[1], c[0], seen[c])
		}
	}
}

// edges are days, three by three, that were reckoned elsewhere: of the first one a part of
// a kind ends with Next itself; of the second one, at a place but a little to the east,
// it ends a grain behind it, of the third one, to the west, a grain ahead. Places are at a
// latitude, and so many parts of 3600 of a degree to the east. Of the last three the part
// is a tithi that no sunrise has, or just that of the next one.
var edges = []struct {
	kind     int
	lat, lon int64
	day      int64
	text     string
}{
	{seek.Tithi, 11, 450814, 859090, "1 131778 638541 1180257 1.3@1714587 1.4@9442056 1.5@17087357 2.25@6818059 2.26@14726580 3.20@8248649 3.21@15616329 4.7@1714587 4.8@5590571 4.9@9442056 4.10@13273042"},
	{seek.Tithi, 11, 450815, 859090, "1 131778 638540 1180256 1.3@1714587 1.4@9442056 2.25@6818059 2.26@14726580 3.20@8248649 3.21@15616329 4.7@1714587 4.8@5590571 4.9@9442056"},
	{seek.Tithi, 11, 450813, 859090, "1 131779 638541 1180258 1.3@1714587 1.4@9442056 1.5@17087357 2.25@6818059 2.26@14726580 3.20@8248649 3.21@15616329 4.7@1714587 4.8@5590571 4.9@9442056 4.10@13273042"},
	{seek.Star, -33, -134418, 1624367, "3 586967 1135809 1636286 1.26@10281179 1.27@17843648 2.22@5283019 2.23@13090288 2.24@20929796 3.22@10420229 3.23@17740134 4.52@6510116 4.53@10281179 4.54@14057952"},
	{seek.Star, -33, -134417, 1624367, "3 586966 1135808 1636285 1.26@10281179 1.27@17843648 2.22@5283019 2.23@13090288 3.22@10420229 3.23@17740134 4.52@6510116 4.53@10281179 4.54@14057952"},
	{seek.Star, -33, -134420, 1624367, "3 586969 1135811 1636287 1.26@10281179 1.27@17843648 2.22@5283019 2.23@13090288 2.24@20929796 3.22@10420229 3.23@17740134 4.52@6510116 4.53@10281179 4.54@14057952"},
	{seek.Yoga, -33, 439810, -37606, "5 89322 701457 1138387 1.4@2453959 1.5@11317285 2.0@8304962 2.1@17437541 3.22@775249 3.23@9107096 3.24@17549784 4.9@2453959 4.10@6866355 4.11@11317285"},
	{seek.Yoga, -33, 439811, -37606, "5 89321 701457 1138386 1.4@2453959 1.5@11317285 2.0@8304962 2.1@17437541 3.22@775249 3.23@9107096 4.9@2453959 4.10@6866355 4.11@11317285"},
	{seek.Yoga, -33, 439809, -37606, "5 89323 701458 1138388 1.4@2453959 1.5@11317285 2.0@8304962 2.1@17437541 3.22@775249 3.23@9107096 3.24@17549784 4.9@2453959 4.10@6866355 4.11@11317285"},
	{seek.Half, -60, -288463, -210071, "6 625754 1330185 1672417 1.29@13379336 1.0@22325733 2.17@12113776 2.18@21207257 3.8@11041026 3.9@19419664 4.58@8962414 4.59@13379336 4.0@17835193"},
	{seek.Half, -60, -288461, -210071, "6 625752 1330183 1672416 1.29@13379336 2.17@12113776 2.18@21207257 3.8@11041026 3.9@19419664 4.58@8962414 4.59@13379336"},
	{seek.Half, -60, -288464, -210071, "6 625755 1330186 1672418 1.29@13379336 1.0@22325733 2.17@12113776 2.18@21207257 3.8@11041026 3.9@19419664 4.58@8962414 4.59@13379336 4.0@17835193"},
	{seek.Sign, -60, -535735, -2152338, "1 1052159 1311857 2101913 1.18@14204612 1.19@23250741 2.20@8890923 2.21@18105624 3.25@13728425 3.26@22309708 4.36@9713269 4.37@14204612 4.38@18718490 0.1@16815304"},
	{seek.Sign, -60, -535734, -2152338, "1 1052158 1311856 2101912 1.18@14204612 1.19@23250741 2.20@8890923 2.21@18105624 3.25@13728425 3.26@22309708 4.36@9713269 4.37@14204612 4.38@18718490"},
	{seek.Sign, -60, -535736, -2152338, "1 1052160 1311858 2101914 1.18@14204612 1.19@23250741 2.20@8890923 2.21@18105624 3.25@13728425 3.26@22309708 4.36@9713269 4.37@14204612 4.38@18718490 0.1@16815304"},
	{seek.Tithi, 28, 45222, 577266, "4 407224 1011426 1455825 1.20@4079483 1.21@11646600 1.22@19276111 2.24@3356294 2.25@11201081 2.26@19107323 3.4@9337520 3.5@16730163 4.41@4079483 4.42@7857386 4.43@11646600 4.44@15451801"},
	{seek.Tithi, 28, 45223, 577266, "4 407223 1011425 1455824 1.20@4079483 1.21@11646600 2.24@3356294 2.25@11201081 2.26@19107323 3.4@9337520 3.5@16730163 4.41@4079483 4.42@7857386 4.43@11646600"},
	{seek.Tithi, 28, 45221, 577266, "4 407225 1011427 1455826 1.20@4079483 1.21@11646600 1.22@19276111 2.24@3356294 2.25@11201081 2.26@19107323 3.4@9337520 3.5@16730163 4.41@4079483 4.42@7857386 4.43@11646600 4.44@15451801"},
}

// P24.1, P24.2, P24.4: a part that ends with the next sunrise itself brings the next one,
// or the Sign's, as does one that ends ahead of it, while one that ends but a grain behind
// it doesn't.
func TestOnNext(t *testing.T) {
	for i, c := range edges {
		p := place.Place{Lat: c.lat, LatOver: 1, Lon: c.lon, LonOver: 3600}
		d := is(t, c.day, p, c.text)
		side := []string{"0", "1", "-1"}[i%3]
		l := d.Of(c.kind)
		// The part is the last but one, where it brings another one.
		at := len(l) - 1
		if side != "1" && c.kind != seek.Sign {
			at--
		}
		if c.kind == seek.Sign && side == "1" {
			if len(l) != 0 {
				t.Errorf("day %d at %s: Sign's parts %v", c.day, p.Text(), l)
			}
			continue
		}
		if at < 0 || cut.Text(l[at].Right.Sub(d.Next).Mul(rat.Whole(rise.Grains))) != side {
			t.Errorf("day %d at %s: parts %v", c.day, p.Text(), l)
		}
	}
	// On the last three days: the tithi is lost, isn't, is.
	for i, want := range []int{22, 0, 22} {
		c := edges[len(edges)-3+i]
		d, _ := almanac.Of(c.day, place.Place{Lat: c.lat, LatOver: 1, Lon: c.lon, LonOver: 3600})
		if got := d.Lost(); got != want {
			t.Errorf("day %d at %d, %d: %d is lost, not %d", c.day, c.lat, c.lon, got, want)
		}
	}
}

// at is the moment of so many ticks.
func at(tick int64) rat.Rat { return rat.Of(tick, ticks) }

// index is layer 15's, word by word.
func index(kind int, t rat.Rat) int {
	e := orb.At(t)
	return [...]int{e.Sign, e.Tithi - 1, e.Star - 1, e.Yoga - 1, e.Half - 1}[kind]
}

// next is the first tick of a kind's grid behind one at which the index is another one.
func next(kind int, tick int64) int64 {
	old := index(kind, at(tick))
	left, right := tick, tick
	for index(kind, at(right)) == old {
		left, right = right, right+width(kind)*ticks/4
	}
	for right-left > width(kind) {
		if mid := (left + right) / 2; index(kind, at(mid)) == old {
			left = mid
		} else {
			right = mid
		}
	}
	return right
}

// row is the chapter's, word by word, of a kind.
func row(kind int, sunrise, end int64) []almanac.Part {
	l := []almanac.Part{}
	for tick := sunrise; tick <= end; {
		right := next(kind, tick)
		l = append(l, almanac.Part{Kind: kind, Index: index(kind, at(tick)), Left: at(right - width(kind)), Right: at(right)})
		tick = right
	}
	return l
}

// inTicks is a moment on their grid.
func inTicks(x rat.Rat) int64 {
	n, _ := cut.Days(x.Mul(rat.Whole(ticks)))
	return n
}

// dayOf is the chapter's, word by word.
func dayOf(n int64, p place.Place) almanac.Day {
	d := almanac.Day{Number: n, Weekday: int((n%7 + 7) % 7), Sunrise: rise.Grain(rise.Dawn(n, p)), Sunset: rise.Grain(rise.Dusk(n, p)), Next: rise.Grain(rise.Dawn(n+1, p))}
	sunrise, end := inTicks(d.Sunrise), inTicks(d.Next)
	for kind := seek.Tithi; kind <= seek.Half; kind++ {
		d.Parts = append(d.Parts, row(kind, sunrise, end)...)
	}
	if index(seek.Sign, d.Sunrise) != index(seek.Sign, d.Next) {
		d.Parts = append(d.Parts, row(seek.Sign, sunrise, sunrise)...)
	}
	return d
}

// P24.1, Of: word by word, at every kind of place, from one end of the days that may be to
// the other; and days one behind the other.
func TestWords(t *testing.T) {
	eachPlace(t, func(t *testing.T, i int, p place.Place) {
		for _, from := range []int64{-api.MaxDay, api.Kali - 2, -3, 730120 + 100*int64(i), api.MaxDay - 4} {
			for d := range int64(5) {
				is(t, from+d, p, text(dayOf(from+d, p)))
			}
		}
		for day := int64(17771*i - api.MaxDay); day <= api.MaxDay; day += 249989 {
			is(t, day, p, text(dayOf(day, p)))
		}
	})
}

// P24.1, Of: the calls of layers 7 and 14 are told as they are; of the last day that may
// be Next is the sunrise of one that may not.
func TestSun(t *testing.T) {
	eachPlace(t, func(t *testing.T, i int, p place.Place) {
		for _, day := range []int64{-api.MaxDay, 1 - api.MaxDay, -8, -7, -6, -1, 0, 1, 6, 7, 738000 + int64(i), api.MaxDay - 1, api.MaxDay} {
			d, errno := almanac.Of(day, p)
			if errno != api.OK || d.Number != day || d.Weekday != civil.Weekday(day) || !d.Sunrise.Same(rise.Sunrise(day, p)) || !d.Sunset.Same(rise.Sunset(day, p)) || !d.Next.Same(rise.Sunrise(day+1, p)) {
				t.Errorf("at %s, Of %d: %d, %d, %s", p.Text(), day, errno, d.Number, text(d))
			}
		}
	})
}

// sameParts tells if both are one and the same.
func sameParts(a, b almanac.Part) bool {
	return a.Kind == b.Kind && a.Index == b.Index && a.Left.Same(b.Left) && a.Right.Same(b.Right)
}

// chained fails if parts of a kind aren't one behind the other, from Sunrise to behind Next.
func chained(t *testing.T, d almanac.Day, kind int) {
	t.Helper()
	l := d.Of(kind)
	if len(l) == 0 {
		t.Fatalf("day %d: no part of kind %d", d.Number, kind)
	}
	now := d.Sunrise
	for i, q := range l {
		last := i == len(l)-1
		switch {
		case q.Kind != kind || q.Index != index(kind, now) || q.Left.Cmp(now) < 0:
			t.Errorf("day %d: part %d of kind %d is %d, from %s on", d.Number, i, kind, q.Index, cut.Text(now))
		case index(kind, q.Left) != q.Index || index(kind, q.Right) != (q.Index+1)%seek.Parts(kind):
			t.Errorf("day %d: part %d of kind %d ends otherwise", d.Number, i, kind)
		case last != (q.Right.Cmp(d.Next) > 0):
			t.Errorf("day %d: part %d of %d, of kind %d, ends at %s", d.Number, i, len(l), kind, cut.Text(q.Right))
		}
		now = q.Right
	}
	if got := l[len(l)-1].Index; got != index(kind, d.Next) {
		t.Errorf("day %d: the last part of kind %d is %d", d.Number, kind, got)
	}
}

// inOrder fails if kinds don't stand one behind the other, the Sign's alone, and last.
func inOrder(t *testing.T, d almanac.Day) {
	t.Helper()
	l := []almanac.Part{}
	for _, kind := range kinds() {
		l = append(l, d.Of(kind)...)
	}
	if !slices.EqualFunc(l, d.Parts, sameParts) {
		t.Errorf("day %d: %s", d.Number, text(d))
	}
}

// signed fails if the Sign's part isn't as it should be; it tells if there is one.
func signed(t *testing.T, d almanac.Day) bool {
	t.Helper()
	l, old, now := d.Of(seek.Sign), index(seek.Sign, d.Sunrise), index(seek.Sign, d.Next)
	if old == now {
		if len(l) != 0 {
			t.Errorf("day %d: the sign stays, %s", d.Number, text(d))
		}
		return false
	}
	if len(l) != 1 || l[0].Index != old || now != (old+1)%12 || l[0].Right.Cmp(d.Next) > 0 || l[0].Left.Cmp(d.Sunrise) < 0 || index(seek.Sign, l[0].Left) != old || index(seek.Sign, l[0].Right) != now {
		t.Errorf("day %d: sign %d, then %d, %s", d.Number, old, now, text(d))
	}
	return true
}

// tithis fails if the next sunrise's tithi isn't as many behind as there are parts but one;
// if one is lost it is the one between; if there is but one it comes again.
func tithis(t *testing.T, d almanac.Day, p place.Place) int {
	t.Helper()
	old, now, n := orb.Tithi(d.Sunrise), orb.Tithi(d.Next), len(d.Of(seek.Tithi))
	if (now-old+30)%30 != n-1 {
		t.Errorf("at %s, day %d: tithi %d, then %d, %d parts", p.Text(), d.Number, old, now, n)
	}
	lost := 0
	if (now-old+30)%30 == 2 {
		lost = old%30 + 1
	}
	if got := d.Lost(); got != lost {
		t.Errorf("at %s, day %d: tithi %d, then %d, %d is lost", p.Text(), d.Number, old, now, got)
	}
	if again := n == 1; n != 2 && amanta.Label(d.Number+1, p).Again != again {
		t.Errorf("at %s, day %d: tithi %d, then %d, %d parts", p.Text(), d.Number, old, now, n)
	}
	return n
}

// P24.2, P24.3, P24.4: from day to day, at each place: over ends, below 0, and where lunar
// days come again and are left out. What a day ends with, the next one begins with.
func TestFlow(t *testing.T) {
	eachPlace(t, func(t *testing.T, i int, p place.Place) {
		signs, seen := 0, [5]int{}
		for _, from := range []int64{-api.MaxDay, api.Kali - 20, -20, 717042 + 40*int64(i), api.MaxDay - 29} {
			old := almanac.Day{}
			for day := from; day < from+30; day++ {
				d, errno := almanac.Of(day, p)
				if errno != api.OK || d.Number != day {
					t.Fatalf("at %s, Of %d: %d, %d", p.Text(), day, errno, d.Number)
				}
				for kind := seek.Tithi; kind <= seek.Half; kind++ {
					chained(t, d, kind)
					if day > from && !sameParts(old.Of(kind)[len(old.Of(kind))-1], d.Of(kind)[0]) {
						t.Errorf("at %s, day %d, kind %d: %s, behind %s", p.Text(), day, kind, text(d), text(old))
					}
				}
				if day > from && (!old.Next.Same(d.Sunrise) || d.Weekday != (old.Weekday+1)%7) {
					t.Errorf("at %s, day %d: %s, behind %s", p.Text(), day, text(d), text(old))
				}
				inOrder(t, d)
				seen[tithis(t, d, p)]++
				if signed(t, d) {
					signs++
				}
				old = d
			}
		}
		if signs < 4 || signs > 6 || seen[1] < 2 || seen[2] < 100 || seen[3] < 2 {
			t.Errorf("at %s: %d signs, days by their tithis %v", p.Text(), signs, seen)
		}
	})
}

// P24.1, P24.4: days in which the sun enters each sign, and those on either side.
func TestSigns(t *testing.T) {
	eachPlace(t, func(t *testing.T, i int, p place.Place) {
		seen := [12]int{}
		from := int64(800000*i - api.MaxDay)
		for n := from; n < from+366; n++ {
			old := index(seek.Sign, rise.Sunrise(n, p))
			if old == index(seek.Sign, rise.Sunrise(n+1, p)) {
				continue
			}
			seen[old]++
			for day := n - 1; day <= n+1; day++ {
				d, errno := almanac.Of(max(day, -api.MaxDay), p)
				if errno != api.OK || signed(t, d) != (d.Number == n) {
					t.Errorf("at %s, Of %d: %d, %s", p.Text(), day, errno, text(d))
				}
			}
			lo, hi := seek.End(seek.Sign, rise.Sunrise(n, p))
			if d, _ := almanac.Of(n, p); !sameParts(d.Parts[len(d.Parts)-1], almanac.Part{Kind: seek.Sign, Index: old, Left: lo, Right: hi}) {
				t.Errorf("at %s, Of %d: %s", p.Text(), n, text(d))
			}
		}
		if slices.Min(seen[:]) < 1 || slices.Max(seen[:]) > 2 {
			t.Errorf("at %s: signs %v", p.Text(), seen)
		}
	})
}

// P24.1, Of each kind, of a kind that a day hasn't, and of numbers that are no kind's.
func TestKinds(t *testing.T) {
	entered, stays := false, false
	for _, c := range known {
		d, _ := almanac.Of(c.day, c.p)
		for _, kind := range kinds() {
			want := []almanac.Part{}
			for _, q := range d.Parts {
				if q.Kind == kind {
					want = append(want, q)
				}
			}
			if got := d.Of(kind); !slices.EqualFunc(got, want, sameParts) {
				t.Errorf("at %s, day %d, kind %d: %v", c.p.Text(), c.day, kind, got)
			}
		}
		if len(d.Of(seek.Sign)) == 1 {
			entered = true
		} else {
			stays = true
		}
		for _, kind := range []int{-1, 5, 6, -4, 60, 1<<32 + 1, math.MaxInt, math.MinInt} {
			if got := d.Of(kind); len(got) != 0 {
				t.Errorf("at %s, day %d, kind %d: %v", c.p.Text(), c.day, kind, got)
			}
		}
	}
	if !entered || !stays {
		t.Errorf("%t, %t", entered, stays)
	}
}

// part is one made by hand.
func part(kind, index int) almanac.Part {
	return almanac.Part{Kind: kind, Index: index, Left: rat.Whole(int64(index)), Right: rat.Of(int64(index), 3)}
}

// P24.1, Of, Lost: of days made by hand, whose parts stand in any order: they keep it.
func TestByHand(t *testing.T) {
	a, b, c, d := part(seek.Tithi, 3), part(seek.Tithi, 29), part(seek.Tithi, 0), part(seek.Tithi, 7)
	s, h, g := part(seek.Star, 4), part(seek.Half, 59), part(seek.Sign, 11)
	for _, x := range []struct {
		parts []almanac.Part
		tithi []almanac.Part
		lost  int
	}{
		{nil, nil, 0}, {[]almanac.Part{a}, []almanac.Part{a}, 0}, {[]almanac.Part{b, a}, []almanac.Part{b, a}, 0},
		{[]almanac.Part{a, b, c}, []almanac.Part{a, b, c}, 30}, {[]almanac.Part{b, c, a}, []almanac.Part{b, c, a}, 1}, {[]almanac.Part{c, a, b}, []almanac.Part{c, a, b}, 4},
		{[]almanac.Part{g, c, s, h, d, s, b, g}, []almanac.Part{c, d, b}, 8}, {[]almanac.Part{a, b, c, d}, []almanac.Part{a, b, c, d}, 0}, {[]almanac.Part{a, a, a}, []almanac.Part{a, a, a}, 4},
		{[]almanac.Part{s, s, s}, nil, 0}, {[]almanac.Part{h, g, s}, nil, 0}, {[]almanac.Part{a, h, b}, []almanac.Part{a, b}, 0},
	} {
		day := almanac.Day{Number: 5, Parts: x.parts}
		if got := day.Of(seek.Tithi); !slices.EqualFunc(got, x.tithi, sameParts) {
			t.Errorf("%v: tithis %v", x.parts, got)
		}
		if got := day.Lost(); got != x.lost {
			t.Errorf("%v: %d is lost, not %d", x.parts, got, x.lost)
		}
	}
	day := almanac.Day{Parts: []almanac.Part{h, g, s, a, s, g}}
	for _, x := range []struct {
		kind int
		want []almanac.Part
	}{{seek.Sign, []almanac.Part{g, g}}, {seek.Tithi, []almanac.Part{a}}, {seek.Star, []almanac.Part{s, s}}, {seek.Yoga, nil}, {seek.Half, []almanac.Part{h}}} {
		if got := day.Of(x.kind); !slices.EqualFunc(got, x.want, sameParts) {
			t.Errorf("kind %d: %v", x.kind, got)
		}
	}
	if (almanac.Day{}).Lost() != 0 || len((almanac.Day{}).Of(seek.Sign)) != 0 {
		t.Error("the zero day")
	}
}

// P24.1: what is done with an answer changes no other one, nor the day.
func TestNothingChanges(t *testing.T) {
	c := known[0]
	d := is(t, c.day, c.p, c.text)
	for _, kind := range kinds() {
		l := d.Of(kind)
		clear(l)
		_ = append(l[:0], part(kind, 1), part(kind, 2))
	}
	if text(d) != c.text {
		t.Errorf("%s, not %s", text(d), c.text)
	}
	for i := range d.Parts {
		clear(d.Parts[i].Left.Num().Abs)
		clear(d.Parts[i].Right.Den())
		d.Parts[i].Index = 99
	}
	is(t, c.day, c.p, c.text)
}

// nowhere are places that may not be.
func nowhere() []place.Place {
	return []place.Place{
		{}, {Lat: 463, LatOver: 0, Lon: 45461, LonOver: 600}, {Lat: 463, LatOver: 20, Lon: 45461, LonOver: -600}, {LatOver: 1, LonOver: 3601},
		{Lat: 61, LatOver: 1, LonOver: 1}, {LatOver: 1, Lon: -181, LonOver: 1}, {Lat: -216001, LatOver: 3600, LonOver: 1},
		{Lat: math.MaxInt64, LatOver: math.MinInt64, Lon: math.MinInt64, LonOver: math.MaxInt64}, {Lat: math.MinInt64, LatOver: 1, Lon: math.MaxInt64, LonOver: 1},
	}
}

// beyond are days that may not be, also such as would if they were cut to 32 bits.
func beyond() []int64 {
	return []int64{-api.MaxDay - 1, api.MaxDay + 1, 1<<32 + 730120, -1<<32 + 730120, 1 << 32, math.MaxInt64, math.MinInt64}
}

// isError fails if a day, at a place, isn't ErrRange, with nothing beside.
func isError(t *testing.T, day int64, p place.Place) {
	t.Helper()
	d, errno := almanac.Of(day, p)
	if errno != api.ErrRange || d.Number != 0 || d.Weekday != 0 || d.Sunrise.Sign() != 0 || d.Sunset.Sign() != 0 || d.Next.Sign() != 0 || len(d.Parts) != 0 {
		t.Errorf("at %v, Of %d: %d, %d, %s", p, day, errno, d.Number, text(d))
	}
}

// P24.1, Of: a place that may not be, a day that may not be, and both at once: the error
// is the same; beside it there is a zero day.
func TestErrors(t *testing.T) {
	for _, p := range nowhere() {
		for _, day := range append(beyond(), 730120, 0, 1, -1, api.Kali, api.MaxDay, -api.MaxDay) {
			isError(t, day, p)
		}
	}
	for _, p := range places() {
		for _, day := range beyond() {
			isError(t, day, p)
		}
	}
}
