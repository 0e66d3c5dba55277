/- The sun in plain numbers: what the code and the reference answer. -/
import Derived.Test.YtjcgojbfjefbcaaDoorA4
namespace Go.Proofs.YtjcgojbfjefbcaaDoor
set_option linter.unusedSimpArgs false
set_option linter.unusedVariables false
open Go.RowKit SineNear

/-- two ends -/
abbrev P2 := Int × Int
/-- as a value -/
abbrev en (p : P2) : Value := .agg #[.int .i64 p.1, .int .i64 p.2]

/-- the four operations, end by end, and their errors -/
def tmP (x y : P2) : P2 := if valB x.1 x.2 && valB y.1 y.2 then (vLo (tLo x.1 x.2 y.1 y.2) (tHi x.1 x.2 y.1 y.2), vHi (tLo x.1 x.2 y.1 y.2) (tHi x.1 x.2 y.1 y.2)) else (0, 0)
def tmE (x y : P2) : Int := if valB x.1 x.2 && valB y.1 y.2 then vE (tLo x.1 x.2 y.1 y.2) (tHi x.1 x.2 y.1 y.2) else 7
def plLo (x y : P2) : Int := lo4 (x.1 + y.1) (x.1 + y.2) (x.2 + y.1) (x.2 + y.2)
def plHi (x y : P2) : Int := hi4 (x.1 + y.1) (x.1 + y.2) (x.2 + y.1) (x.2 + y.2)
def plP (x y : P2) : P2 := if valB x.1 x.2 && valB y.1 y.2 then (vLo (plLo x y) (plHi x y), vHi (plLo x y) (plHi x y)) else (0, 0)
def plE (x y : P2) : Int := if valB x.1 x.2 && valB y.1 y.2 then vE (plLo x y) (plHi x y) else 7
def mnLo (x y : P2) : Int := lo4 (x.1 - y.1) (x.1 - y.2) (x.2 - y.1) (x.2 - y.2)
def mnHi (x y : P2) : Int := hi4 (x.1 - y.1) (x.1 - y.2) (x.2 - y.1) (x.2 - y.2)
def mnP (x y : P2) : P2 := if valB x.1 x.2 && valB y.1 y.2 then (vLo (mnLo x y) (mnHi x y), vHi (mnLo x y) (mnHi x y)) else (0, 0)
def mnE (x y : P2) : Int := if valB x.1 x.2 && valB y.1 y.2 then vE (mnLo x y) (mnHi x y) else 7
def ovP (x y : P2) : P2 := if valB x.1 x.2 && valB y.1 y.2 then (if zeroIn y.1 y.2 then (0, 0) else (vLo (oLo x.1 x.2 y.1 y.2) (oHi x.1 x.2 y.1 y.2), vHi (oLo x.1 x.2 y.1 y.2) (oHi x.1 x.2 y.1 y.2))) else (0, 0)
def ovE (x y : P2) : Int := if valB x.1 x.2 && valB y.1 y.2 then (if zeroIn y.1 y.2 then 8 else vE (oLo x.1 x.2 y.1 y.2) (oHi x.1 x.2 y.1 y.2)) else 7
/-- an enclosure and its error, as a value -/
abbrev enE (p : P2) (e : Int) : Value := .tuple #[.agg #[.int .i64 p.1, .int .i64 p.2], .int .i64 e]
theorem timesV_eq (x y : P2) : timesV x.1 x.2 y.1 y.2 = enE (tmP x y) (tmE x y) := by unfold timesV tmP tmE; split <;> rfl
theorem plusV_eq (x y : P2) : plusV x.1 x.2 y.1 y.2 = enE (plP x y) (plE x y) := by unfold plusV plP plE; split <;> rfl
theorem minusV_eq (x y : P2) : minusV x.1 x.2 y.1 y.2 = enE (mnP x y) (mnE x y) := by unfold minusV mnP mnE; split <;> rfl
theorem overV_eq (x y : P2) : overV x.1 x.2 y.1 y.2 = enE (ovP x y) (ovE x y) := by unfold overV ovP ovE; split <;> (try split) <;> rfl

/-- sines and cosines, and angles, of an enclosure -/
def siP (x : P2) : P2 := (sofLo x.1 x.2, sofHi x.1 x.2)
def coP (x : P2) : P2 := (cofLo x.1 x.2, cofHi x.1 x.2)
def asP (x : P2) : P2 := (asLo x.1 x.2, asHi x.1 x.2)
def acP (x : P2) : P2 := (acLo x.1 x.2, acHi x.1 x.2)

/-- end by end -/
def adP (x y : P2) : P2 := (x.1 + y.1, x.2 + y.2)
def lsP (x y : P2) : P2 := (x.1 - y.2, x.2 - y.1)
def muP (n : Int) (x : P2) : P2 := (n * x.1, n * x.2)
def onP (n : Int) : P2 := (n, n)
def slP (x : P2) : P2 := (x.1 - 10000, x.2 + 10000)
def rdP (x : P2) : P2 := (x.1 - 360000000 * (x.1 / 360000000), x.2 - 360000000 * (x.1 / 360000000))
/-- an angle that grows, by a number above 0, and one that falls -/
def grP (s g : Int) (x : P2) : P2 := (s + g * x.1 / 8640000, s + upD (g * x.2) 8640000)
def faP (s g : Int) (x : P2) : P2 := (s + g * x.2 / 8640000, s + upD (g * x.1) 8640000)
/-- k of a sine -/
def ofP (k : Int) (x : P2) : P2 := (k * (siP x).1 / 100000000, upD (k * (siP x).2) 100000000)

/-- the model -/
def gM (x : P2) : P2 := rdP (grP 357528000 98560028 x)
def qM (x : P2) : P2 := rdP (grP 280459000 98564736 x)
def cM (x : P2) : P2 := adP (ofP 1915000 (gM x)) (ofP 20000 (muP 2 (gM x)))
def lM (x : P2) : P2 := rdP (slP (adP (qM x) (cM x)))
def oM (x : P2) : P2 := faP 23439000 (-36) x
def sM (x : P2) : P2 := tmP (siP (oM x)) (siP (lM x))
def hM (x : P2) : P2 := lsP (ofP 2466000 (muP 2 (lM x))) (cM x)
def eM (x : P2) : P2 := slP (lsP (hM x) (ofP 53000 (muP 4 (lM x))))

/-- the way of the sun: its middle, and its swing -/
def miP (lat : Int) (s : P2) : P2 := tmP (siP (onP lat)) s
def swP (lat : Int) (s : P2) : P2 := tmP (coP (onP lat)) (coP (asP s))

/-- the sine of the altitude at a moment -/
def hourM (m lon : Int) (e : P2) : P2 := adP (adP (12500 * m / 3, upD (12500 * m) 3) (onP lon)) e
def hiM (lat lon m : Int) : P2 := plP (miP lat (sM (onP m))) (tmP (swP lat (sM (onP m))) (coP (rdP (hourM m lon (eM (onP m))))))

/-- moments, and windows -/
def moP (day : Int) (a : P2) : P2 := adP (onP (86400 * day)) (3 * a.1 / 12500, upD (3 * a.2) 12500)
def reP (rise : Bool) : P2 := if rise then (-44400, 1200) else (-1200, 44400)
def wiP (day lon : Int) (rise : Bool) : P2 := adP (moP day (onP (-lon))) (reP rise)
/-- the cosine of the hour angle, and what it tells -/
def raP (alt : P2) (lat : Int) (w : P2) : P2 := ovP (mnP (siP alt) (miP lat (sM w))) (swP lat (sM w))
def kiM (x : P2) : Int := if 100000000 < x.1 then 1 else if x.2 < -100000000 then 2 else if -100000000 ≤ x.1 ∧ x.1 ≤ x.2 ∧ x.2 ≤ 100000000 then 0 else 3
def haP (rise : Bool) (a : P2) : P2 := if rise then lsP (onP 0) a else a
/-- the next window -/
def nxP (day lon : Int) (rise : Bool) (x w : P2) : P2 := moP day (lsP (lsP (haP rise (acP x)) (onP lon)) (eM w))
/-- so many rounds from a window on: the kind, and the last window -/
def roM (alt : P2) (lat lon day : Int) (rise : Bool) : Nat → P2 → Int × P2
  | 0, w => (0, w)
  | n + 1, w => if kiM (raP alt lat w) = 0 then roM alt lat lon day rise n (nxP day lon rise (raP alt lat w) w) else (kiM (raP alt lat w), wiP day lon rise)
def paM (alt : P2) (lat lon day : Int) (rise : Bool) : Int × P2 := roM alt lat lon day rise 3 (wiP day lon rise)
end Go.Proofs.YtjcgojbfjefbcaaDoor
