/- The program's Round of ratios. -/
import Derived.Test.YtfgkhdpdjclmkaaGreatBFlr
import Derived.Test.YtfgkhdpdjclmkaaGreatBi
import Derived.Test.YtfgkhdpdjclmkaaGreatBg
import Derived.Test.YtfgkhdpdjclmkaaGreatBc
import Derived.Test.YtfgkhdpdjclmkaaGreatBl
namespace Go.Proofs.YtfgkhdpdjclmkaaGreat
open Go.RowKit
set_option maxHeartbeats 400000
set_option maxRecDepth 100000
set_option linter.unusedSimpArgs false
set_option linter.unusedVariables false

section
variable {u : World} {B n c g1 g2 g3 : Nat} {A : Option Addr} {xs : List Nat} {b b2 : Bool} {D D2 : Option Addr} {m k m2 k2 : Nat} {i j : Int} (h : LRd u B A n c xs) (P : Bk2 u g1 (.bool b) (.slice D m k)) (R : Bk2 u g2 (.bool b2) (.slice D2 m2 k2)) (F : Bk2 u g3 (.int .i64 i) (.int .i64 j)) (h12 : g1 ≠ g2) (h13 : g1 ≠ g3) (h23 : g2 ≠ g3) (x1 x2 y1 y2 z1 z2 : Value)
include h P R F h12 h13 h23
end
end Go.Proofs.YtfgkhdpdjclmkaaGreat
