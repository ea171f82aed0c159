/-
 Two identities, by which sums hang on no brackets. Nothing of a program.
-/
import Derived.Test.YtefjnfeckenmkaaGreatDoorE0
namespace Go.Proofs.YtefjnfeckenmkaaGreatDoor.Num
theorem asx (d x1 y1 x2 y2 x3 y3 : F) (h1 : y1 * y1 - x1 * x1 = 1 + d * x1 * x1 * y1 * y1) (h2 : y2 * y2 - x2 * x2 = 1 + d * x2 * x2 * y2 * y2) (h3 : y3 * y3 - x3 * x3 = 1 + d * x3 * x3 * y3 * y3) : ((x1 * y2 + x2 * y1) * (1 - (d * x1 * x2 * y1 * y2)) * y3 + x3 * (y1 * y2 + x1 * x2) * (1 + (d * x1 * x2 * y1 * y2))) * ((1 + (d * x2 * x3 * y2 * y3)) * (1 - (d * x2 * x3 * y2 * y3)) + d * x1 * y1 * (x2 * y3 + x3 * y2) * (y2 * y3 + x2 * x3)) = (x1 * (y2 * y3 + x2 * x3) * (1 + (d * x2 * x3 * y2 * y3)) + (x2 * y3 + x3 * y2) * (1 - (d * x2 * x3 * y2 * y3)) * y1) * ((1 + (d * x1 * x2 * y1 * y2)) * (1 - (d * x1 * x2 * y1 * y2)) + d * x3 * y3 * (x1 * y2 + x2 * y1) * (y1 * y2 + x1 * x2)) := by
 grobner
theorem asy (d x1 y1 x2 y2 x3 y3 : F) (h1 : y1 * y1 - x1 * x1 = 1 + d * x1 * x1 * y1 * y1) (h2 : y2 * y2 - x2 * x2 = 1 + d * x2 * x2 * y2 * y2) (h3 : y3 * y3 - x3 * x3 = 1 + d * x3 * x3 * y3 * y3) : ((y1 * y2 + x1 * x2) * (1 + (d * x1 * x2 * y1 * y2)) * y3 + (x1 * y2 + x2 * y1) * (1 - (d * x1 * x2 * y1 * y2)) * x3) * ((1 + (d * x2 * x3 * y2 * y3)) * (1 - (d * x2 * x3 * y2 * y3)) - d * x1 * y1 * (x2 * y3 + x3 * y2) * (y2 * y3 + x2 * x3)) = (y1 * (y2 * y3 + x2 * x3) * (1 + (d * x2 * x3 * y2 * y3)) + x1 * (x2 * y3 + x3 * y2) * (1 - (d * x2 * x3 * y2 * y3))) * ((1 + (d * x1 * x2 * y1 * y2)) * (1 - (d * x1 * x2 * y1 * y2)) - d * x3 * y3 * (x1 * y2 + x2 * y1) * (y1 * y2 + x1 * x2)) := by
 grobner
end Go.Proofs.YtefjnfeckenmkaaGreatDoor.Num
