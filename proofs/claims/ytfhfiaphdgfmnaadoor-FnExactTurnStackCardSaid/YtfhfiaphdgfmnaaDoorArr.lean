import Derived.Test.YtfhfiaphdgfmnaaDoorG1
import Derived.Deep.RegionHeld3
import Derived.Test.YtfhfiaphdgfmnaaDoorCellsN
import Derived.Test.YtfhfiaphdgfmnaaDoorBest
import Derived.Test.YtfhfiaphdgfmnaaDoorDrop1
import Derived.Test.YtfhfiaphdgfmnaaDoorPlain
namespace Go.Proofs.YtfhfiaphdgfmnaaDoor
open Go.RowKit
set_option maxRecDepth 100000
set_option linter.unusedVariables false
set_option linter.unusedSimpArgs false
set_option linter.unusedSimpArgs false
def Sh.setDye3 (s : Sh) (j : Nat) (d : Nat → Int) : Sh := { s with dye := fun i => if j ≤ i ∧ i < j + 3 then d (i - j) else s.dye i }
theorem dye3_at (s : Sh) (o j : Nat) (ho : o = 66 + j) (hj : j + 3 ≤ 192) (d : Nat → Int) : vrow 266 (over s.at o 3 fun i => .int .i16 (d i)) = vrow 266 (s.setDye3 j d).at := vrow_ext _ _ _ fun i hi => by
  subst ho
  unfold over Sh.at Sh.setDye3
  by_cases h : 66 + j ≤ i ∧ i < 66 + j + 3
  · have h0 : ¬ i = 0 := by omega
    have h1 : ¬ i = 1 := by omega
    have h2 : ¬ i < 66 := by omega
    have h3 : i < 258 := by omega
    have h4 : j ≤ i - 66 ∧ i - 66 < j + 3 := by omega
    have h5 : i - (66 + j) = i - 66 - j := by omega
    simp [h, h0, h1, h2, h3, h4, h5]
  · rw [if_neg h]
    by_cases h0 : i = 0
    · simp [h0]
    · by_cases h1 : i = 1
      · simp [h1]
      · by_cases h2 : i < 66
        · simp [h0, h1, h2]
        · by_cases h3 : i < 258
          · have h4 : ¬ (j ≤ i - 66 ∧ i - 66 < j + 3) := by omega
            simp [h0, h1, h2, h3, h4]
          · simp [h0, h1, h2, h3]
/-- the sheet T with the cell x, y as the cell u, v of s is; the program's way with the wax -/
def copyI (s T : Sh) (x y u v : Nat) : Sh := ((T.setWet (8 * y + x) (s.wet (8 * v + u))).setDye3 (24 * y + 3 * x) (fun i => s.dye (24 * v + 3 * u + i))).setWax y (if waxB s u v then onB (T.wax y) x else offB (T.wax y) x)
/-- .. the model's way -/
def copyS (s T : Sh) (x y u v : Nat) : Sh := ((T.setWet (8 * y + x) (s.wet (8 * v + u))).setDye3 (24 * y + 3 * x) (fun i => s.dye (24 * v + 3 * u + i))).setWax y (if waxB s u v then onB (T.wax y) x else T.wax y)
def arrI (s : Sh) (fx fy : Nat → Nat → Nat) (T : Sh) (l : List (Nat × Nat)) : Sh := l.foldl (fun T p => copyI s T p.1 p.2 (fx p.1 p.2) (fy p.1 p.2)) T
def arrS (s : Sh) (fx fy : Nat → Nat → Nat) (T : Sh) (l : List (Nat × Nat)) : Sh := l.foldl (fun T p => copyS s T p.1 p.2 (fx p.1 p.2) (fy p.1 p.2)) T
theorem clr_zero : ∀ x : Nat, x < 8 → offB 0 x = 0 := by decide +kernel
theorem on_bd : ∀ r : Nat, r < 256 → ∀ x : Nat, x < 8 → 0 ≤ onB (r : Int) x ∧ onB (r : Int) x < 256 := by decide +kernel
theorem clr_on : ∀ x : Nat, x < 8 → ∀ z : Nat, z < 8 → x ≠ z → ∀ r : Nat, r < 256 → offB (r : Int) z = r → offB (onB (r : Int) x) z = onB (r : Int) x := by decide +kernel
theorem arr_eq (s : Sh) (fx fy : Nat → Nat → Nat) : ∀ (l : List (Nat × Nat)) (T : Sh), l.Nodup → (∀ p ∈ l, p.1 < 8 ∧ p.2 < 8) → (∀ y, 0 ≤ T.wax y ∧ T.wax y < 256) → (∀ p ∈ l, offB (T.wax p.2) p.1 = T.wax p.2) → arrI s fx fy T l = arrS s fx fy T l
  | [], T, _, _, _, _ => rfl
  | p :: l, T, hn, hb, hw, hc => by
    have h1 : copyI s T p.1 p.2 (fx p.1 p.2) (fy p.1 p.2) = copyS s T p.1 p.2 (fx p.1 p.2) (fy p.1 p.2) := by
      unfold copyI copyS
      rw [hc p (by simp)]
    obtain ⟨hp1, hp2⟩ := hb p (by simp)
    show arrI s fx fy (copyI s T p.1 p.2 (fx p.1 p.2) (fy p.1 p.2)) l = arrS s fx fy (copyS s T p.1 p.2 (fx p.1 p.2) (fy p.1 p.2)) l
    rw [h1]
    obtain ⟨r, hr⟩ : ∃ r : Nat, T.wax p.2 = r := ⟨(T.wax p.2).toNat, by have := hw p.2; omega⟩
    have hr8 : r < 256 := by have := hw p.2; omega
    have hwx : ∀ y, (copyS s T p.1 p.2 (fx p.1 p.2) (fy p.1 p.2)).wax y = if y = p.2 then (if waxB s (fx p.1 p.2) (fy p.1 p.2) then onB (r : Int) p.1 else r) else T.wax y := by
      intro y
      rw [← hr]
      rfl
    refine arr_eq s fx fy l _ (List.nodup_cons.1 hn).2 (fun q hq => hb q (by simp [hq])) ?_ ?_
    · intro y
      rw [hwx]
      split
      · split
        · exact on_bd r hr8 p.1 hp1
        · omega
      · exact hw y
    · intro q hq
      obtain ⟨hq1, hq2⟩ := hb q (by simp [hq])
      have hcq := hc q (by simp [hq])
      rw [hwx]
      split
      · rename_i e
        split
        · have hne : p.1 ≠ q.1 := fun e2 => (List.nodup_cons.1 hn).1 (by rw [show p = q from Prod.ext e2 e.symm]; exact hq)
          exact clr_on p.1 hp1 q.1 hq1 hne r hr8 (by rw [← hr, ← e]; exact hcq)
        · rw [← hr, ← e]; exact hcq
      · exact hcq
theorem arr_eq' (s : Sh) (fx fy : Nat → Nat → Nat) (a c : Nat) (ha : a ≤ 8) (hc : c ≤ 8) (T : Sh) (hT : ∀ y, T.wax y = 0) : arrI s fx fy T (pairsL a c) = arrS s fx fy T (pairsL a c) :=
  arr_eq s fx fy _ T (pairsL_nodup a c) (fun p hp => by have := pairsL_mem hp; omega) (fun y => by rw [hT]; omega) (fun p hp => by rw [hT]; exact clr_zero _ (by have := pairsL_mem hp; omega))
theorem wrapw (n : Int) (h : -128 ≤ n ∧ n ≤ 127) : IntKind.i8.wrap n = n := IntWalk.i8_in n h
theorem size_fa : (Tryd.prog.info? 126).map (·.size) = some 1 := by kernel_rfl
theorem rw_fa : (Tryd.prog.underlying 126).map (·.isRow) = some false := by kernel_rfl
theorem region_heldI {P : Program} {Q : Exit → Act → World → Prop} {S : World → Prop} {id r m : Nat} {ops : Array Oper} {a : Act} {w : World} (hm : P.follows .mixedOrders = true) (hnd : noDefer ops = true) (hS : S w.drew)
    (h : S w.drew → wpAnyH P .any ops (Plainly Q) S ops.size (Array.replicate ops.size false) a w.drew) : (Code.region id ops true).wpIn (Fence.wide.inRound r) m P Q a w := by
  refine wpIn_mono (wpIn_region_any hm (wpAnyIn_of_wpAny (ro := some r) hnd plainly_out _ _ _ _ (wpAny_of_held _ _ _ _ (h hS)))) ?_
  rintro e a w ⟨rfl, h⟩
  exact h
end Go.Proofs.YtfhfiaphdgfmnaaDoor
