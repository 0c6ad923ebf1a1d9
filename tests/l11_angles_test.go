package tests

import (
	"fmt"
	"math"
	"math/big"
	"math/rand/v2"
	"regexp"
	"strings"
	"testing"

	"loop.example/g00880/impl"
)

func TestLimitsOfPointsHaveTheirMeaning(t *testing.T) {
	is(t, "Degree", impl.Degree, 10000000)
	is(t, "MaxLat", impl.MaxLat, 90*impl.Degree)
	is(t, "MaxLon", impl.MaxLon, 180*impl.Degree)
	is(t, "FullTurn", impl.FullTurn, 360*impl.Degree)
}

// latitudes are limits, 0, their neighbours, and others between them.
var latitudes = []int64{
	-impl.MaxLat, -impl.MaxLat + 1, -525000000, -impl.Degree - 1, -impl.Degree, -impl.Degree + 1, -9, -1,
	0, 1, 10, 999999, impl.Degree - 1, impl.Degree, 525000001, impl.MaxLat - 1, impl.MaxLat,
}

// longitudes are limits, 0, their neighbours, and others between them.
var longitudes = []int64{
	-impl.MaxLon + 1, -impl.MaxLon + 2, -1000000000, -999999999, -134000000, -impl.Degree, -5000000, -1,
	0, 1, 2, 99, 123456789, 900000000, 1666000000, impl.MaxLon - 1, impl.MaxLon,
}

// onEarth returns valid points, the same ones in each run.
func onEarth() []impl.Point {
	var list []impl.Point
	for _, lat := range latitudes {
		for _, lon := range longitudes {
			list = append(list, impl.Point{Lat: lat, Lon: lon})
		}
	}
	random := rand.New(rand.NewPCG(41, 42))
	for range 300 {
		lat, lon := random.Int64N(impl.MaxLat)>>random.IntN(30), random.Int64N(impl.MaxLon)>>random.IntN(31)
		list = append(list, impl.Point{Lat: lat, Lon: lon}, impl.Point{Lat: -lat, Lon: lon}, impl.Point{Lat: lat, Lon: -lon}, impl.Point{Lat: -lat, Lon: -lon})
	}
	return list
}

// noPoints returns points that are not valid.
func noPoints() []impl.Point {
	var list []impl.Point
	for _, n := range []int64{
		impl.MaxLat + 1, -impl.MaxLat - 1, impl.MaxLon, -impl.MaxLon, impl.FullTurn, 1 << 32, -1 << 32, math.MaxInt64, math.MinInt64, math.MinInt64 + 1,
	} {
		list = append(list, impl.Point{Lat: n}, impl.Point{Lat: n, Lon: impl.MaxLon}, impl.Point{Lat: n, Lon: n})
	}
	for _, n := range []int64{
		-impl.MaxLon, impl.MaxLon + 1, -impl.MaxLon - 1, impl.FullTurn, -impl.FullTurn, 1 << 33, -1 << 33, math.MaxInt64, math.MinInt64, math.MinInt64 + 1,
	} {
		list = append(list, impl.Point{Lon: n}, impl.Point{Lat: impl.MaxLat, Lon: n}, impl.Point{Lat: -impl.MaxLat, Lon: n})
	}
	return list
}

func TestPointsAreValidWithinTheirLimits(t *testing.T) {
	for _, p := range onEarth() {
		is(t, fmt.Sprint("ValidPoint", p), impl.ValidPoint(p), true)
	}
	for _, p := range noPoints() {
		is(t, fmt.Sprint("ValidPoint", p), impl.ValidPoint(p), false)
	}
	for _, c := range []struct {
		p    impl.Point
		want bool
	}{
		{impl.Point{Lat: -impl.MaxLat - 1}, false}, {impl.Point{Lat: -impl.MaxLat}, true}, {impl.Point{Lat: impl.MaxLat}, true}, {impl.Point{Lat: impl.MaxLat + 1}, false},
		{impl.Point{Lon: -impl.MaxLon}, false}, {impl.Point{Lon: -impl.MaxLon + 1}, true}, {impl.Point{Lon: impl.MaxLon}, true}, {impl.Point{Lon: impl.MaxLon + 1}, false},
	} {
		is(t, fmt.Sprint("ValidPoint", c.p), impl.ValidPoint(c.p), c.want)
	}
}

// wrapped returns what WrapLon should return for a number of any size.
func wrapped(n *big.Int) int64 {
	const least = -impl.MaxLon + 1
	_, rest := floorOf(new(big.Int).Sub(n, big.NewInt(least)), big.NewInt(impl.FullTurn))
	return rest.Int64() + least
}

func TestAnglesAreWrapped(t *testing.T) {
	list := append(append(numbers(), fixes()...), longitudes...)
	for _, k := range []int64{0, 1, 2, 3, 7, 1000, 1001, math.MaxInt64/impl.MaxLon - 1, math.MaxInt64 / impl.MaxLon} {
		for _, rest := range []int64{-2, -1, 0, 1, 2} {
			list = append(list, k*impl.MaxLon+rest, -k*impl.MaxLon+rest)
		}
	}
	for _, n := range list {
		got := impl.WrapLon(n)
		is(t, fmt.Sprintf("WrapLon(%d)", n), got, wrapped(big.NewInt(n)))
		is(t, fmt.Sprintf("WrapLon(%d) is a longitude", n), impl.ValidPoint(impl.Point{Lon: got}), true)
		is(t, fmt.Sprintf("WrapLon(%d) again", got), impl.WrapLon(got), got)
	}
	for _, c := range [][2]int64{
		{0, 0}, {impl.MaxLon, impl.MaxLon}, {-impl.MaxLon, impl.MaxLon}, {impl.MaxLon + 1, -impl.MaxLon + 1}, {-impl.MaxLon - 1, impl.MaxLon - 1}, {-impl.MaxLon + 1, -impl.MaxLon + 1},
		{impl.FullTurn, 0}, {-impl.FullTurn, 0}, {3 * impl.MaxLon, impl.MaxLon}, {-3 * impl.MaxLon, impl.MaxLon}, {5*impl.FullTurn - 1, -1}, {-5*impl.FullTurn + 1, 1},
		{math.MaxInt64, 54775807}, {math.MinInt64, -54775808},
	} {
		is(t, fmt.Sprintf("WrapLon(%d)", c[0]), impl.WrapLon(c[0]), c[1])
	}
}

func TestLongitudesAreSubtracted(t *testing.T) {
	list := append(onEarth(), noPoints()...)
	for i, p := range list {
		for k := range 60 {
			q := list[(i*7+k*31)%len(list)]
			want, wantCode := int64(0), int64(impl.ErrInvalid)
			if impl.ValidPoint(p) && impl.ValidPoint(q) {
				want, wantCode = wrapped(big.NewInt(q.Lon-p.Lon)), impl.OK
			}
			got, code := impl.LonBetween(p, q)
			is(t, fmt.Sprint("LonBetween", p, q), got, want)
			is(t, fmt.Sprint("LonBetween code", p, q), code, wantCode)
		}
	}
	for _, c := range []struct{ from, to, want int64 }{
		{0, 0, 0}, {1700000000, -1700000000, 200000000}, {-1700000000, 1700000000, -200000000},
		// Half a turn is positive in both directions.
		{0, impl.MaxLon, impl.MaxLon}, {impl.MaxLon, 0, impl.MaxLon}, {-900000000, 900000000, impl.MaxLon}, {900000000, -900000000, impl.MaxLon},
		{-1, impl.MaxLon - 1, impl.MaxLon}, {impl.MaxLon - 1, -1, impl.MaxLon}, {impl.MaxLon, 1, -impl.MaxLon + 1}, {1, impl.MaxLon, impl.MaxLon - 1},
		{impl.MaxLon, -impl.MaxLon + 1, 1}, {-impl.MaxLon + 1, impl.MaxLon, -1},
	} {
		got, code := impl.LonBetween(impl.Point{Lat: 5, Lon: c.from}, impl.Point{Lat: -impl.MaxLat, Lon: c.to})
		is(t, fmt.Sprint("LonBetween ", c), got, c.want)
		is(t, fmt.Sprint("LonBetween code ", c), code, impl.OK)
	}
}

func TestPointsInRadians(t *testing.T) {
	unit := over(realPi(), realOf(impl.MaxLon))
	for _, p := range onEarth() {
		lat, lon := impl.LatOf(p), impl.LonOf(p)
		is(t, fmt.Sprint("LatOf", p), lat, impl.RadiansOf(p.Lat))
		is(t, fmt.Sprint("LonOf", p), lon, impl.RadiansOf(p.Lon))
		contains(t, fmt.Sprint("LatOf", p), lat, times(unit, realOf(p.Lat)))
		contains(t, fmt.Sprint("LonOf", p), lon, times(unit, realOf(p.Lon)))
	}
	for _, p := range noPoints() {
		is(t, fmt.Sprint("LatOf", p), impl.LatOf(p), whole)
		is(t, fmt.Sprint("LonOf", p), impl.LonOf(p), whole)
	}
	is(t, "the latitude of a pole", impl.LatOf(impl.Point{Lat: impl.MaxLat}), impl.TurnI(1))
	is(t, "the latitude of the other pole", impl.LatOf(impl.Point{Lat: -impl.MaxLat}), impl.TurnI(-1))
	is(t, "the longitude at half a turn", impl.LonOf(impl.Point{Lon: impl.MaxLon}), impl.PiI())
}

func TestAntipodesAreOpposite(t *testing.T) {
	for _, p := range onEarth() {
		q, code := impl.Antipode(p)
		is(t, fmt.Sprint("Antipode", p), q, impl.Point{Lat: -p.Lat, Lon: wrapped(big.NewInt(p.Lon + impl.MaxLon))})
		is(t, fmt.Sprint("Antipode code", p), code, impl.OK)
		is(t, fmt.Sprint("Antipode is valid", p), impl.ValidPoint(q), true)
		back, _ := impl.Antipode(q)
		is(t, fmt.Sprint("Antipode twice", p), back, p)
		between, _ := impl.LonBetween(p, q)
		is(t, fmt.Sprint("LonBetween a point and its antipode", p), between, impl.MaxLon)
	}
	for _, p := range noPoints() {
		q, code := impl.Antipode(p)
		is(t, fmt.Sprint("Antipode", p), q, impl.Point{})
		is(t, fmt.Sprint("Antipode code", p), code, impl.ErrInvalid)
	}
	for _, c := range [][2]impl.Point{
		{{Lat: impl.MaxLat}, {Lat: -impl.MaxLat, Lon: impl.MaxLon}}, {{Lat: -impl.MaxLat, Lon: 5}, {Lat: impl.MaxLat, Lon: 5 - impl.MaxLon}},
		{{}, {Lon: impl.MaxLon}}, {{Lat: 1, Lon: impl.MaxLon}, {Lat: -1}}, {{Lat: -1, Lon: -impl.MaxLon + 1}, {Lat: 1, Lon: 1}}, {{Lon: -1}, {Lon: impl.MaxLon - 1}},
	} {
		got, _ := impl.Antipode(c[0])
		is(t, fmt.Sprint("Antipode", c[0]), got, c[1])
	}
}

// wantSame returns what SamePlace should return.
func wantSame(p, q impl.Point) (bool, int64) {
	if !impl.ValidPoint(p) || !impl.ValidPoint(q) {
		return false, impl.ErrInvalid
	}
	return p.Lat == q.Lat && (p.Lon == q.Lon || size(p.Lat) == impl.MaxLat), impl.OK
}

func TestPlacesAreCompared(t *testing.T) {
	list := append(onEarth()[:len(latitudes)*len(longitudes)], noPoints()...)
	for _, p := range list {
		for _, q := range list {
			same, code := impl.SamePlace(p, q)
			want, wantCode := wantSame(p, q)
			is(t, fmt.Sprint("SamePlace", p, q), same, want)
			is(t, fmt.Sprint("SamePlace code", p, q), code, wantCode)
		}
	}
	const pole = impl.MaxLat
	for _, c := range []struct {
		p, q impl.Point
		same bool
		code int64
	}{
		{impl.Point{Lat: pole, Lon: 5}, impl.Point{Lat: pole, Lon: 6}, true, impl.OK}, {impl.Point{Lat: -pole, Lon: 5}, impl.Point{Lat: -pole, Lon: impl.MaxLon}, true, impl.OK},
		{impl.Point{Lat: pole}, impl.Point{Lat: -pole}, false, impl.OK}, {impl.Point{Lat: -pole, Lon: 1}, impl.Point{Lat: pole, Lon: 1}, false, impl.OK},
		{impl.Point{Lat: pole - 1, Lon: 5}, impl.Point{Lat: pole - 1, Lon: 6}, false, impl.OK}, {impl.Point{Lat: pole}, impl.Point{Lat: pole - 1}, false, impl.OK},
		{impl.Point{Lat: 1, Lon: impl.MaxLon}, impl.Point{Lat: 1, Lon: -impl.MaxLon + 1}, false, impl.OK}, {impl.Point{Lat: 1, Lon: 2}, impl.Point{Lat: 1, Lon: 2}, true, impl.OK},
		// Equal points, and longitudes of a pole, that are not valid.
		{impl.Point{Lat: pole + 1}, impl.Point{Lat: pole + 1}, false, impl.ErrInvalid}, {impl.Point{Lat: pole, Lon: -impl.MaxLon}, impl.Point{Lat: pole, Lon: 1}, false, impl.ErrInvalid},
		{impl.Point{Lat: pole, Lon: 1}, impl.Point{Lat: pole, Lon: impl.MaxLon + 1}, false, impl.ErrInvalid}, {impl.Point{Lon: -impl.MaxLon}, impl.Point{Lon: impl.MaxLon}, false, impl.ErrInvalid},
	} {
		same, code := impl.SamePlace(c.p, c.q)
		is(t, fmt.Sprint("SamePlace", c.p, c.q), same, c.same)
		is(t, fmt.Sprint("SamePlace code", c.p, c.q), code, c.code)
	}
}

// degreesText returns the exact text of an angle in degrees.
func degreesText(n int64) string { return big.NewRat(n, 10000000).FloatString(7) }

func TestTextsOfPoints(t *testing.T) {
	for _, p := range onEarth() {
		is(t, fmt.Sprint("PointText", p), impl.PointText(p), degreesText(p.Lat)+" "+degreesText(p.Lon))
	}
	for _, p := range noPoints() {
		is(t, fmt.Sprint("PointText", p), impl.PointText(p), "")
	}
	for _, c := range []struct {
		lat, lon int64
		want     string
	}{
		{0, 0, "0.0000000 0.0000000"}, {-1, 0, "-0.0000001 0.0000000"}, {0, -9999999, "0.0000000 -0.9999999"}, {1, -5000000, "0.0000001 -0.5000000"},
		{-impl.Degree, impl.Degree, "-1.0000000 1.0000000"}, {525000000, -134000000, "52.5000000 -13.4000000"},
		{impl.MaxLat, impl.MaxLon, "90.0000000 180.0000000"}, {-impl.MaxLat, -impl.MaxLon + 1, "-90.0000000 -179.9999999"},
		{impl.MaxLat + 1, 0, ""}, {0, -impl.MaxLon, ""},
	} {
		is(t, fmt.Sprint("PointText ", c.lat, c.lon), impl.PointText(impl.Point{Lat: c.lat, Lon: c.lon}), c.want)
	}
}

var degreesForm = regexp.MustCompile(`^-?(0|[1-9][0-9]*)\.[0-9]{7}$`)

// wantDegrees returns the exact angle with a text in degrees, in units.
func wantDegrees(s string) (*big.Rat, bool) {
	if !degreesForm.MatchString(s) || s == "-0.0000000" {
		return new(big.Rat), false
	}
	value, _ := new(big.Rat).SetString(s)
	return value.Mul(value, big.NewRat(10000000, 1)), true
}

// wantPoint returns what ReadPoint should return.
func wantPoint(s string) (impl.Point, bool) {
	front, behind, _ := strings.Cut(s, " ")
	lat, isLat := wantDegrees(front)
	lon, isLon := wantDegrees(behind)
	if !isLat || !isLon || !lat.Num().IsInt64() || !lon.Num().IsInt64() {
		return impl.Point{}, false
	}
	p := impl.Point{Lat: lat.Num().Int64(), Lon: lon.Num().Int64()}
	if !impl.ValidPoint(p) {
		return impl.Point{}, false
	}
	return p, true
}

// isReadAsPoint compares the result of ReadPoint with what it should return.
func isReadAsPoint(t *testing.T, s string) {
	t.Helper()
	p, ok := impl.ReadPoint(s)
	want, wantOk := wantPoint(s)
	name := fmt.Sprintf("ReadPoint(%.99q)", s)
	is(t, name, p, want)
	is(t, name+" ok", ok, wantOk)
}

func TestTextsOfPointsAreReadBack(t *testing.T) {
	for _, p := range onEarth() {
		got, ok := impl.ReadPoint(impl.PointText(p))
		is(t, fmt.Sprint("ReadPoint of the text of ", p), got, p)
		is(t, fmt.Sprint("ReadPoint ok of the text of ", p), ok, true)
	}
}

// variants returns texts that differ from a text by one of some bytes that is
// replaced, inserted or missing, or by two bytes that are exchanged.
func variants(s string, bytes string) []string {
	list := []string{s, s + s, s + " " + s, strings.ToUpper(s)}
	for i := range len(s) + 1 {
		for k := range len(bytes) {
			list = append(list, s[:i]+bytes[k:k+1]+s[i:])
			if i < len(s) {
				list = append(list, s[:i]+bytes[k:k+1]+s[i+1:])
			}
		}
		if i < len(s) {
			list = append(list, s[:i]+s[i+1:], s[:i], s[i:])
		}
		if i+1 < len(s) {
			list = append(list, s[:i]+s[i+1:i+2]+s[i:i+1]+s[i+2:])
		}
	}
	return list
}

// everyByte returns a string of all bytes.
func everyByte() string {
	var list []byte
	for b := range 256 {
		list = append(list, byte(b))
	}
	return string(list)
}

func TestOtherTextsOfPointsAreNotRead(t *testing.T) {
	for _, s := range []string{
		"0.0000000 0.0000000", "52.5000000 -13.4000000", "-0.0000001 0.0000001", "-90.0000000 180.0000000", "90.0000000 -179.9999999",
	} {
		for _, v := range variants(s, everyByte()) {
			isReadAsPoint(t, v)
		}
	}
	for _, s := range []string{
		"", " ", "-", "- -", ". .", "52.5000000", "52.5000000 ", " 52.5000000", "52.5000000  -13.4000000", " 52.5000000 -13.4000000", "52.5000000 -13.4000000 ",
		"52.5000000 -13.4000000 0.0000000", "52.5000000\t-13.4000000", "52.5000000,-13.4000000", "52,5000000 -13,4000000", "52.5000000-13.4000000",
		"+52.5000000 -13.4000000", "52.5000000 +13.4000000", "--52.5000000 13.4000000", "52.5000000- 13.4000000", "- 52.5000000 13.4000000",
		"-0.0000000 0.0000000", "0.0000000 -0.0000000", "-0.0000000 -0.0000000", "-0 0", "0 0", "0. 0.", "0.0 0.0", "00.0000000 0.0000000", "0.0000000 00.0000000",
		"1.0000000 01.0000000", "-01.0000000 1.0000000", "052.5000000 -13.4000000", "52.5000000 -013.4000000", "52.50000000 -13.4000000", "52.500000 -13.4000000", "52.5000000 -13.400000",
		"52.5 -13.4", "52 -13", "525000000 -134000000", "52500000.0 -1340000.00", "5.25000000 -1.34000000", ".5000000 -.4000000", "52.5000000 .4000000",
		"5.25e1 1.0000000", "0x1.0000000 1.0000000", "1_0.0000000 1.0000000", "NaN 0.0000000", "whole", "12d34m56.76996s",
		"\uff15\uff12.5000000 1.0000000", "\u0665.0000000 1.0000000", "52.5000000\u00a0-13.4000000", "52.5000000 \u221213.4000000", "52.5000000 -13.4000000\xff", "\xff52.5000000 -13.4000000", "\xff", "52.5000000 -13.4000000\x00", "52.5000000 -13.4000000\n",
		// Points that are not valid.
		"90.0000001 0.0000000", "-90.0000001 0.0000000", "91.0000000 0.0000000", "0.0000000 180.0000001", "0.0000000 -180.0000000", "0.0000000 -180.0000001", "0.0000000 360.0000000", "180.0000000 90.0000000",
		// Numbers that differ from the units of a point by 2^64, and other long texts.
		"1844674407423.4551616 0.0000000", "0.0000000 -1844674407423.4551616", "1844674407370.9551616 1844674407370.9551616", "-1844674407370.9551617 0.0000000",
		"922337203685.4775808 0.0000000", "-922337203685.4775808 0.0000000", "0.0000000 99999999999999999999.0000000",
		strings.Repeat("9", 10000) + ".0000000 0.0000000", "0.0000000 0." + strings.Repeat("0", 10000), strings.Repeat("0", 10000) + "1.0000000 0.0000000",
		"0.0000000 0.0000000" + strings.Repeat(" ", 10000), strings.Repeat(" ", 10000) + "0.0000000 0.0000000", strings.Repeat("0.0000000 ", 10000), strings.Repeat("-", 10000), strings.Repeat("\xff", 10000),
	} {
		_, isPoint := wantPoint(s)
		is(t, fmt.Sprintf("%.99q is the text of a point", s), isPoint, false)
		isReadAsPoint(t, s)
	}
}

// angleNumbers returns angles from -MaxLon to MaxLon, the same ones in each run.
func angleNumbers() []int64 {
	list := append(append([]int64{-impl.MaxLon}, latitudes...), longitudes...)
	const minute, second = 166666, 2777 // rounded down
	for k := int64(1); k < 62; k++ {
		for _, unit := range []int64{1, second, minute, impl.Degree} {
			list = append(list, k*unit-1, k*unit, k*unit+1, -k*unit, -k*unit-1)
		}
		list = append(list, k*impl.Degree/60, k*impl.Degree/3600, -k*impl.Degree/60, -k*impl.Degree/3600)
	}
	random := rand.New(rand.NewPCG(43, 44))
	for range 1000 {
		n := random.Int64N(impl.MaxLon+1) >> random.IntN(31)
		list = append(list, n, -n)
	}
	return list
}

// beyondAngles are numbers that are not from -MaxLon to MaxLon.
var beyondAngles = []int64{
	impl.MaxLon + 1, -impl.MaxLon - 1, impl.MaxLon + impl.Degree, impl.FullTurn, -impl.FullTurn, 1<<32 + 1, -1<<32 - 1, math.MaxInt64, math.MinInt64, math.MinInt64 + 1,
}

// wantAngleText returns what AngleText should return for an angle within the limits.
func wantAngleText(n int64) string {
	sign := ""
	if n < 0 {
		sign = "-"
	}
	parts := size(n) * 36
	seconds, parts := parts/100000, parts%100000
	return fmt.Sprintf("%s%dd%02dm%02d.%05ds", sign, seconds/3600, seconds/60%60, seconds%60, parts)
}

func TestTextsOfAngles(t *testing.T) {
	for _, n := range angleNumbers() {
		text, code := impl.AngleText(n)
		is(t, fmt.Sprintf("AngleText(%d)", n), text, wantAngleText(n))
		is(t, fmt.Sprintf("AngleText(%d) code", n), code, impl.OK)
	}
	for _, n := range beyondAngles {
		text, code := impl.AngleText(n)
		is(t, fmt.Sprintf("AngleText(%d)", n), text, "")
		is(t, fmt.Sprintf("AngleText(%d) code", n), code, impl.ErrRange)
	}
	for n, want := range map[int64]string{
		0: "0d00m00.00000s", 1: "0d00m00.00036s", -1: "-0d00m00.00036s", 125824361: "12d34m56.76996s", impl.MaxLon: "180d00m00.00000s", -impl.MaxLon: "-180d00m00.00000s",
		impl.MaxLon - 1: "179d59m59.99964s", -impl.MaxLon + 1: "-179d59m59.99964s", impl.Degree: "1d00m00.00000s", impl.Degree - 1: "0d59m59.99964s", 25000: "0d00m09.00000s",
		166666: "0d00m59.99976s", 166667: "0d01m00.00012s", 27778: "0d00m10.00008s", -500000: "-0d03m00.00000s", -5000000: "-0d30m00.00000s", -1000000001: "-100d00m00.00036s",
	} {
		text, code := impl.AngleText(n)
		is(t, fmt.Sprintf("AngleText(%d)", n), text, want)
		is(t, fmt.Sprintf("AngleText(%d) code", n), code, impl.OK)
	}
}

var angleForm = regexp.MustCompile(`^(-?)(0|[1-9][0-9]*)d([0-5][0-9])m([0-5][0-9]\.[0-9]{5})s$`)

// wantAngle returns what ReadAngle should return.
func wantAngle(s string) (int64, bool) {
	fields := angleForm.FindStringSubmatch(s)
	if fields == nil {
		return 0, false
	}
	value := new(big.Rat)
	for _, field := range fields[2:] {
		part, _ := new(big.Rat).SetString(field)
		value.Mul(value, big.NewRat(60, 1)).Add(value, part)
	}
	value.Mul(value, big.NewRat(impl.Degree, 3600))
	if !value.IsInt() || value.Cmp(big.NewRat(impl.MaxLon, 1)) > 0 || value.Sign() == 0 && fields[1] == "-" {
		return 0, false
	}
	if fields[1] == "-" {
		value.Neg(value)
	}
	return value.Num().Int64(), true
}

// isReadAsAngle compares the result of ReadAngle with what it should return.
func isReadAsAngle(t *testing.T, s string) {
	t.Helper()
	n, ok := impl.ReadAngle(s)
	want, wantOk := wantAngle(s)
	name := fmt.Sprintf("ReadAngle(%.99q)", s)
	is(t, name, n, want)
	is(t, name+" ok", ok, wantOk)
}

func TestTextsOfAnglesAreReadBack(t *testing.T) {
	for _, n := range angleNumbers() {
		text, _ := impl.AngleText(n)
		got, ok := impl.ReadAngle(text)
		is(t, "ReadAngle "+text, got, n)
		is(t, "ReadAngle ok "+text, ok, true)
		isReadAsAngle(t, text)
	}
}

func TestOtherTextsOfAnglesAreNotRead(t *testing.T) {
	for _, s := range []string{"0d00m00.00000s", "-0d00m00.00036s", "12d34m56.76996s", "180d00m00.00000s", "-179d59m59.99964s"} {
		for _, v := range variants(s, everyByte()) {
			isReadAsAngle(t, v)
		}
	}
	for k := range int64(36 * 4) {
		isReadAsAngle(t, fmt.Sprintf("0d00m00.%05ds", k))
		isReadAsAngle(t, fmt.Sprintf("-7d59m59.%05ds", 99999-k))
	}
	for k := range 100 {
		isReadAsAngle(t, fmt.Sprintf("-3d%02dm00.00036s", k))
		isReadAsAngle(t, fmt.Sprintf("3d00m%02d.00000s", k))
	}
	for _, s := range []string{
		"", "-", "d", "dm.s", "s", "12", "12d", "12d34m", "12d34m56", "12d34m56s", "12d34m56.s", "12d34m56.76996", "12d34m56.7699s", "12d34m56.769960s", "12d34m56.76997s", "12d34m56.76995s",
		"12d4m56.76996s", "12d034m56.76996s", "12d34m6.76968s", "12d34m056.76996s", "012d34m56.76996s", "00d00m00.00000s", "d34m56.76996s", "-d00m00.00036s", "12m34d56.76996s", "12d34m56.76996d",
		"-0d00m00.00000s", "+0d00m00.00036s", "+12d34m56.76996s", "--12d34m56.76996s", "12d-34m56.76996s", "12d34m-56.76996s", "- 12d34m56.76996s", "12d34m56.76996s-", "-00d00m00.00036s",
		"12d60m00.00000s", "12d34m60.00000s", "12d59m60.00000s", "12d99m99.99972s", "0d60m00.00000s", "0d00m60.00000s", "179d60m00.00000s", "179d59m60.00000s", "-179d59m60.00000s",
		"180d00m00.00036s", "-180d00m00.00036s", "180d00m01.00008s", "180d01m00.00000s", "181d00m00.00000s", "-181d00m00.00000s", "360d00m00.00000s", "999d00m00.00000s",
		" 12d34m56.76996s", "12d34m56.76996s ", "12d 34m56.76996s", "12d34m56.76996s\n", "12D34M56.76996S", "12d34m56,76996s", "12\u00b034m56.76996s", "12d34'56.76996\"", "\uff11d00m00.00000s", "\xff", "12d34m56.76996\xff", "12d34m56.76996s\x00", "52.5000000",
		// Numbers that differ from the digits of an angle by 2^64, and other long texts.
		"18446744073d70m95.51616s", "18446744086d05m52.28612s", "18446744073d70m95.51652s", "9223372036d85m47.75808s", "-9223372036d85m47.75808s", "10000000000d00m00.00000s", "18446744073709551616d00m00.00000s",
		strings.Repeat("9", 10000) + "d00m00.00000s", strings.Repeat("0", 10000) + "d00m00.00000s", "0d00m00." + strings.Repeat("0", 10000) + "s", "0d00m00.00000" + strings.Repeat("s", 10000), strings.Repeat("0d00m00.00000s", 1000), strings.Repeat("\xff", 10000),
	} {
		_, isAngle := wantAngle(s)
		is(t, fmt.Sprintf("%.99q is the text of an angle", s), isAngle, false)
		isReadAsAngle(t, s)
	}
}

// wantMiddle returns what MiddlePoint should return.
func wantMiddle(lat, lon impl.Interval) (impl.Point, int64, int64) {
	south, north, isLat := wantUnits(lat)
	west, east, isLon := wantUnits(lon)
	if !isLat || !isLon {
		return impl.Point{}, 0, impl.ErrUnknown
	}
	middle := quotientDown(south+north, 1, 2)
	if size(middle) > impl.MaxLat {
		return impl.Point{}, 0, impl.ErrRange
	}
	half := big.NewInt(quotientDown(west+east, 1, 2))
	return impl.Point{Lat: middle, Lon: wrapped(half)}, max(north-south, east-west), impl.OK
}

// isMiddle compares the results of MiddlePoint with what it should return.
func isMiddle(t *testing.T, lat, lon impl.Interval) {
	t.Helper()
	p, doubt, code := impl.MiddlePoint(lat, lon)
	want, wantDoubt, wantCode := wantMiddle(lat, lon)
	name := fmt.Sprint("MiddlePoint", lat, lon)
	is(t, name, p, want)
	is(t, name+" doubt", doubt, wantDoubt)
	is(t, name+" code", code, wantCode)
}

// earthIntervals returns intervals of angles of all sizes in radians, also beyond
// a pole and beyond the limits of UnitsOf.
func earthIntervals() []impl.Interval {
	list := append(someIntervals(), impl.TurnI(1), impl.TurnI(-1), impl.PiI(), impl.NegI(impl.PiI()), impl.TurnI(6), impl.TurnI(40), impl.TurnI(41), impl.TurnI(-40))
	for _, n := range []int64{0, 1, 2, 7, 900000000, 900000001, 1799999999, 1800000001, 5400000000, impl.MaxUnits, impl.MaxUnits - 1, 123456789} {
		x := impl.RadiansOf(n)
		list = append(list, x, impl.NegI(x), impl.HullI(x, impl.NegI(x)), impl.HullI(x, impl.Integer(1)), between(x.Lo-7, x.Hi+12), between(-x.Hi-3, -x.Lo+20), exactly(x.Lo), exactly(-x.Hi))
	}
	random := rand.New(rand.NewPCG(45, 46))
	for range 60 {
		lo := random.Int64N(16*impl.Unit) - 8*impl.Unit
		list = append(list, between(lo, lo+random.Int64N(impl.Unit)>>random.IntN(32)))
	}
	return list
}

func TestMiddlesOfLatitudesAndLongitudes(t *testing.T) {
	list := append(earthIntervals(), wholes()...)
	for _, lat := range list {
		for _, lon := range list {
			isMiddle(t, lat, lon)
		}
	}
}

// unitsFrom returns an interval in radians with two bounds in units, of which
// the lower one is the lesser one.
func unitsFrom(t *testing.T, lower, upper int64) impl.Interval {
	t.Helper()
	x := impl.HullI(impl.RadiansOf(lower), impl.RadiansOf(upper))
	// An end that is next to a number of units lies between it and a neighbour.
	if lower != 0 {
		x.Lo += 2
	}
	if upper != 0 {
		x.Hi -= 2
	}
	gotLower, gotUpper, ok := impl.UnitsOf(x)
	if !ok || gotLower != lower || gotUpper != upper {
		t.Errorf("the bounds of %v are %d and %d, not %d and %d", x, gotLower, gotUpper, lower, upper)
	}
	return x
}

func TestMiddlesAtTheEdges(t *testing.T) {
	const pole, half = impl.MaxLat, impl.MaxLon
	for _, c := range []struct {
		south, north, west, east int64
		want                     impl.Point
		doubt, code              int64
	}{
		{1, 3, 5, 7, impl.Point{Lat: 2, Lon: 6}, 2, impl.OK},
		{1, 4, 5, 10, impl.Point{Lat: 2, Lon: 7}, 5, impl.OK},
		{1, 9, 5, 7, impl.Point{Lat: 5, Lon: 6}, 8, impl.OK},
		// Sums that are odd and negative, and the middle of which is -1/2.
		{-4, -1, -10, -5, impl.Point{Lat: -3, Lon: -8}, 5, impl.OK},
		{-2, 1, -5, 4, impl.Point{Lat: -1, Lon: -1}, 9, impl.OK},
		// At half a turn, on both sides of it, and beyond it.
		{0, 2, half - 1, half + 1, impl.Point{Lat: 1, Lon: half}, 2, impl.OK},
		{0, 2, half - 1, half + 2, impl.Point{Lat: 1, Lon: half}, 3, impl.OK},
		{0, 2, half, half + 2, impl.Point{Lat: 1, Lon: -half + 1}, 2, impl.OK},
		{0, 2, -half - 1, -half + 1, impl.Point{Lat: 1, Lon: half}, 2, impl.OK},
		{0, 2, -half - 2, -half + 1, impl.Point{Lat: 1, Lon: half - 1}, 3, impl.OK},
		{0, 2, -half, -half + 2, impl.Point{Lat: 1, Lon: -half + 1}, 2, impl.OK},
		{0, 2, impl.FullTurn + 4, impl.FullTurn + 6, impl.Point{Lat: 1, Lon: 5}, 2, impl.OK},
		// At a pole and beyond it by a unit.
		{pole - 1, pole + 1, 0, 2, impl.Point{Lat: pole, Lon: 1}, 2, impl.OK},
		{pole - 1, pole + 2, 0, 2, impl.Point{Lat: pole, Lon: 1}, 3, impl.OK},
		{pole, pole + 2, 0, 2, impl.Point{}, 0, impl.ErrRange},
		{-pole - 1, -pole + 1, 0, 2, impl.Point{Lat: -pole, Lon: 1}, 2, impl.OK},
		{-pole - 2, -pole + 1, 0, 2, impl.Point{}, 0, impl.ErrRange},
		{-pole - 2, -pole, 0, 2, impl.Point{}, 0, impl.ErrRange},
		{-pole - 5, pole + 5, -10, 10, impl.Point{}, 2*pole + 10, impl.OK},
	} {
		lat, lon := unitsFrom(t, c.south, c.north), unitsFrom(t, c.west, c.east)
		p, doubt, code := impl.MiddlePoint(lat, lon)
		is(t, fmt.Sprint("MiddlePoint ", c), p, c.want)
		is(t, fmt.Sprint("MiddlePoint doubt ", c), doubt, c.doubt)
		is(t, fmt.Sprint("MiddlePoint code ", c), code, c.code)
		isMiddle(t, lat, lon)
	}
}

func TestUnknownAnglesHaveNoMiddle(t *testing.T) {
	beyond, good := impl.TurnI(1), impl.RadiansOf(5)
	for _, x := range append(wholes(), impl.RadiansOf(impl.MaxUnits), impl.TurnI(41), impl.Integer(1000), impl.Integer(-1000)) {
		for _, c := range [][2]impl.Interval{{x, good}, {good, x}, {x, x}, {beyond, x}, {impl.TurnI(2), x}} {
			p, doubt, code := impl.MiddlePoint(c[0], c[1])
			is(t, fmt.Sprint("MiddlePoint", c), p, impl.Point{})
			is(t, fmt.Sprint("MiddlePoint doubt", c), doubt, 0)
			is(t, fmt.Sprint("MiddlePoint code", c), code, impl.ErrUnknown)
		}
	}
}

func TestPointsAreRestoredFromRadians(t *testing.T) {
	for _, p := range onEarth() {
		for k := int64(-9); k <= 9; k++ {
			name := fmt.Sprint(p, " and full turns: ", k)
			lon := impl.AddI(impl.LonOf(p), impl.TurnI(4*k))
			got, doubt, code := impl.MiddlePoint(impl.LatOf(p), lon)
			is(t, "MiddlePoint "+name, got, p)
			is(t, "MiddlePoint code "+name, code, impl.OK)
			if doubt < 0 || doubt > 2 {
				t.Errorf("MiddlePoint doubt %s: got %d", name, doubt)
			}
			is(t, "AtPoint "+name, impl.AtPoint(impl.LatOf(p), lon, p), true)
		}
		isPole := size(p.Lat) == impl.MaxLat
		for _, k := range []int64{-10, 10, 11, 1000} {
			lon := impl.AddI(impl.LonOf(p), impl.TurnI(4*k))
			is(t, fmt.Sprint("AtPoint ", p, " and full turns: ", k), impl.AtPoint(impl.LatOf(p), lon, p), isPole)
		}
	}
}

func TestNeighboursAreOtherPoints(t *testing.T) {
	for _, p := range onEarth() {
		for _, d := range []impl.Point{{Lat: 1}, {Lat: -1}, {Lon: 1}, {Lon: -1}, {Lat: 1, Lon: -1}} {
			q := impl.Point{Lat: p.Lat + d.Lat, Lon: impl.WrapLon(p.Lon + d.Lon)}
			if !impl.ValidPoint(q) {
				continue
			}
			same, _ := impl.SamePlace(p, q)
			is(t, fmt.Sprint("AtPoint of the angles of ", q, " at ", p), impl.AtPoint(impl.LatOf(q), impl.LonOf(q), p), same)
		}
	}
}

// wantAt returns what AtPoint should return.
func wantAt(lat, lon impl.Interval, p impl.Point) bool {
	if !impl.ValidPoint(p) || !meets(lat, p.Lat) {
		return false
	}
	found := p.Lat == -impl.MaxLat || p.Lat == impl.MaxLat
	for turns := int64(-9); turns <= 9; turns++ {
		found = found || meets(lon, p.Lon+turns*impl.FullTurn)
	}
	return found
}

// meets reports whether a number of an interval may be an angle in units.
func meets(x impl.Interval, units int64) bool {
	if impl.IsWhole(x) {
		return true
	}
	angle := impl.RadiansOf(units)
	return x.Lo <= angle.Hi && x.Hi >= angle.Lo
}

func TestAnglesAtPoints(t *testing.T) {
	list := append(earthIntervals(), wholes()...)
	all := append(onEarth()[:len(latitudes)*len(longitudes)], noPoints()...)
	for i, p := range all {
		for k, lon := range list {
			for _, lat := range []impl.Interval{impl.LatOf(p), list[(i*7+k)%len(list)], whole} {
				is(t, fmt.Sprint("AtPoint", lat, lon, p), impl.AtPoint(lat, lon, p), wantAt(lat, lon, p))
			}
		}
	}
}

func TestEndsOfAnglesAtPoints(t *testing.T) {
	for _, p := range onEarth()[:len(latitudes)*len(longitudes)] {
		lat, isPole := impl.LatOf(p), size(p.Lat) == impl.MaxLat
		for _, turns := range []int64{-9, -8, -1, 0, 1, 8, 9} {
			lon := impl.RadiansOf(p.Lon + turns*impl.FullTurn)
			for _, c := range []struct {
				lat, lon impl.Interval
				want     bool
			}{
				{exactly(lat.Lo), exactly(lon.Lo), true}, {exactly(lat.Hi), exactly(lon.Hi), true}, {between(lat.Lo-9, lat.Lo), between(lon.Hi, lon.Hi+9), true},
				{exactly(lat.Lo - 1), lon, false}, {exactly(lat.Hi + 1), lon, false}, {between(lat.Lo-9, lat.Lo-1), whole, false}, {between(lat.Hi+1, lat.Hi+9), whole, false},
				{lat, exactly(lon.Lo - 1), isPole}, {lat, exactly(lon.Hi + 1), isPole}, {whole, between(lon.Hi+1, lon.Hi+3), isPole}, {lat, whole, true}, {whole, lon, true}, {whole, whole, true},
				{whole, between(1, 0), true}, {between(1, 0), between(0, impl.MaxFix), true},
			} {
				is(t, fmt.Sprint("AtPoint", c.lat, c.lon, p), impl.AtPoint(c.lat, c.lon, p), c.want)
			}
		}
	}
	for _, p := range noPoints() {
		is(t, fmt.Sprint("AtPoint", p), impl.AtPoint(whole, whole, p), false)
		is(t, fmt.Sprint("AtPoint", p), impl.AtPoint(impl.RadiansOf(p.Lat), impl.RadiansOf(p.Lon), p), false)
	}
}

func TestPolesHaveAnyLongitude(t *testing.T) {
	list := append(append(earthIntervals(), wholes()...), impl.Integer(1000000), impl.Integer(-1000000))
	for _, lon := range list {
		for _, p := range []impl.Point{{Lat: impl.MaxLat, Lon: 7}, {Lat: -impl.MaxLat, Lon: impl.MaxLon}} {
			other, _ := impl.Antipode(p)
			near := impl.Point{Lat: p.Lat / impl.MaxLat * (impl.MaxLat - 1)}
			is(t, fmt.Sprint("AtPoint", lon, p), impl.AtPoint(impl.LatOf(p), lon, p), true)
			is(t, fmt.Sprint("AtPoint of the other pole", lon, p), impl.AtPoint(impl.LatOf(other), lon, p), false)
			is(t, fmt.Sprint("AtPoint of a point beside the pole", lon, p), impl.AtPoint(impl.LatOf(near), lon, p), false)
		}
	}
	near := impl.Point{Lat: impl.MaxLat - 1}
	is(t, "AtPoint with another longitude beside a pole", impl.AtPoint(impl.LatOf(near), impl.Integer(1), near), false)
}
