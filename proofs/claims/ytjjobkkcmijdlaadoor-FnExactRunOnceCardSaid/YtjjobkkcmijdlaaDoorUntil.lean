import Derived.Deep.RegionHeld3
import Derived.ScopeJumps
import Derived.WalkMore
import Derived.Test.YtjjobkkcmijdlaaDoorIrun
import Derived.Test.YtjjobkkcmijdlaaDoorLrun
import Derived.Test.YtjjobkkcmijdlaaDoorG1
import Derived.Test.YtjjobkkcmijdlaaDoorCodeOf
namespace Go.Proofs.YtjjobkkcmijdlaaDoor
open Go.RowKit
set_option maxRecDepth 100000
set_option linter.unusedVariables false
set_option linter.unusedSimpArgs false
theorem cellRun_like {s T : Sh} (h : Gd s T) : cellRun T = cellRun s := by
  funext U p
  unfold cellRun
  rw [wax_like h, nbs_like h]
theorem runS_like {s T : Sh} (h : Gd s T) (l : List Sp8) : runS T l = l.foldl (cellRun s) (T, 0) := by unfold runS; rw [cellRun_like h]
/-- a step that counts up, and changes nothing where it does not -/
def Counts (f : Sh × Int → Sp8 → Sh × Int) : Prop := ∀ T p, T.2 ≤ (f T p).2 ∧ ((f T p).2 = T.2 → f T p = T)
theorem Counts.fold {f : Sh × Int → Sp8 → Sh × Int} (h : Counts f) : ∀ (l : List Sp8) (T : Sh × Int), T.2 ≤ (l.foldl f T).2 ∧ ((l.foldl f T).2 = T.2 → l.foldl f T = T)
  | [], T => ⟨Int.le_refl _, fun _ => rfl⟩
  | p :: l, T => by
    obtain ⟨a1, a2⟩ := h T p
    obtain ⟨b1, b2⟩ := h.fold l (f T p)
    rw [List.foldl_cons]
    refine ⟨by omega, fun e => ?_⟩
    have e1 : (f T p).2 = T.2 := by omega
    have e2 := a2 e1
    rw [b2 (by omega), e2]
theorem gv_counts (x y : Nat) : Counts (gv x y) := fun T q => by
  unfold gv
  split
  · exact ⟨by show T.2 ≤ T.2 + 1; omega, fun e => by have : T.2 + 1 = T.2 := e; omega⟩
  · exact ⟨Int.le_refl _, fun _ => rfl⟩
theorem cell_counts (s : Sh) : Counts (cellRun s) := fun T p => by
  unfold cellRun
  split
  · exact ⟨Int.le_refl _, fun _ => rfl⟩
  · exact (gv_counts _ _).fold _ _
theorem run_zero {s T : Sh} {l : List Sp8} (h : (l.foldl (cellRun s) (T, 0)).2 = 0) : (l.foldl (cellRun s) (T, 0)).1 = T := by
  rw [((cell_counts s).fold l (T, 0)).2 h]
/-- rounds of running until one gives nothing: the sheet, how many rounds, and the code -/
def untilS (s : Sh) (l : List Sp8) : Nat → Nat → Sh → Sh × Int × Int
  | 0, _, _ => (Sh.zero, 0, 7)
  | f + 1, n, T => if (l.foldl (cellRun s) (T, 0)).2 = 0 then (T, (n : Int), 0) else if n = 500 then (Sh.zero, 0, 7) else untilS s l f (n + 1) (l.foldl (cellRun s) (T, 0)).1
set_option linter.unusedSimpArgs false
set_option linter.unusedSimpArgs false
theorem own_row_ge {W : World} {base g cap size n : Nat} {t : TypeId} {xs : List Value} (h : W.ownsRow base t size (.slice (some ⟨g, 0, none⟩) n cap) n xs) : base ≤ g := by
  rcases h.2 with ⟨hv, _⟩ | ⟨g', cap', cur, hv, hb, _⟩
  · cases hv
  · simp only [Value.slice.injEq, Option.some.injEq, Addr.mk.injEq] at hv
    obtain ⟨⟨rfl, _⟩, _, rfl⟩ := hv
    exact hb
theorem grown_row {a b : World} (h : Below a.heap.size a b) (r : Option Nat) : a.grownBy b r := ⟨h.os, h.tape, h.output, h.size, fun k hk _ => h.block k hk⟩
theorem untilS_step (s : Sh) (l : List Sp8) (n : Nat) (T : Sh) (h : n ≤ 500) : untilS s l (501 - n) n T = if (l.foldl (cellRun s) (T, 0)).2 = 0 then (T, (n : Int), 0) else if n = 500 then (Sh.zero, 0, 7) else untilS s l (501 - (n + 1)) (n + 1) (l.foldl (cellRun s) (T, 0)).1 := by
  obtain ⟨m, hm⟩ : ∃ m, 501 - n = m + 1 := ⟨500 - n, by omega⟩
  rw [hm, show 501 - (n + 1) = m by omega]
  rfl
theorem GRow.kept {W W' : World} {gp gl mt : Nat} {s : Sh} {l : List Sp8} {f f2 : Nat → Value} (h : GRow W gp gl s l f f2) (hg : W.grownBy W' (some mt)) (h1 : gp ≠ mt) (h2 : gl ≠ mt) : GRow W' gp gl s l f f2 :=
  ⟨(hg.block gp (row_lt h.pl) (by simpa using h1)).trans h.pl, (hg.block gl (row_lt h.li) (by simpa using h2)).trans h.li, h.hl, h.at_, h.nb⟩
end Go.Proofs.YtjjobkkcmijdlaaDoor
