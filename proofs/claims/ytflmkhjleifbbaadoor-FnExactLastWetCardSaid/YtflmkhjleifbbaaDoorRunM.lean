import Derived.Test.YtflmkhjleifbbaaDoorNorm
namespace Go.Proofs.YtflmkhjleifbbaaDoor
open Go.RowKit
set_option maxRecDepth 100000
set_option linter.unusedVariables false
set_option linter.unusedSimpArgs false
theorem giveInks_other (T : Sh) (x y u v : Nat) (wt : Int) (i : Nat) (h : ∀ m, m < 3 → i ≠ 24 * y + 3 * x + m ∧ i ≠ 24 * v + 3 * u + m) : ∀ k, k ≤ 3 → (giveInks T x y u v wt k).dye i = T.dye i
  | 0, _ => rfl
  | k + 1, hk => by
    have ih := giveInks_other T x y u v wt i h k (by omega)
    obtain ⟨h1, h2⟩ := h k (by omega)
    show (if i = 24 * v + 3 * u + k then _ else if i = 24 * y + 3 * x + k then _ else (giveInks T x y u v wt k).dye i) = _
    rw [if_neg h2, if_neg h1, ih]
theorem giveS_wet (T : Sh) (x y u v i : Nat) : (giveS T x y u v).wet i = if i = 8 * v + u then T.wet (8 * v + u) + 1 else if i = 8 * y + x then T.wet (8 * y + x) - 1 else T.wet i := by
  show (if i = 8 * v + u then _ else if i = 8 * y + x then _ else (giveInks T x y u v (T.wet (8 * y + x)) 3).wet i) = _
  rw [giveInks_wet]
theorem giveS_dye (T : Sh) (x y u v i : Nat) : (giveS T x y u v).dye i = (giveInks T x y u v (T.wet (8 * y + x)) 3).dye i := rfl
theorem giveInks_wax (T : Sh) (x y u v : Nat) (wt : Int) : ∀ k, (giveInks T x y u v wt k).wax = T.wax ∧ (giveInks T x y u v wt k).wide = T.wide ∧ (giveInks T x y u v wt k).high = T.high
  | 0 => ⟨rfl, rfl, rfl⟩
  | k + 1 => giveInks_wax T x y u v wt k
theorem free_parts {s : Sh} {x y : Nat} (h : freeB s x y = true) : hasB s x y = true ∧ waxB s x y = false := by
  unfold freeB at h
  rw [Int.toNat_natCast, Int.toNat_natCast] at h
  simpa using h
theorem has_like {s T : Sh} (h : Gd s T) (x y : Int) : hasB T x y = hasB s x y := by unfold hasB; rw [h.wide, h.high]
theorem wax_like {s T : Sh} (h : Gd s T) (x y : Nat) : waxB T x y = waxB s x y := by unfold waxB; rw [h.wax]
theorem free_like {s T : Sh} (h : Gd s T) (x y : Int) : freeB T x y = freeB s x y := by unfold freeB; rw [has_like h, wax_like h]
theorem nbs_like {s T : Sh} (h : Gd s T) (x y : Int) : ∀ k, nbs T x y k = nbs s x y k
  | 0 => rfl
  | k + 1 => by show nbs T x y k ++ _ = nbs s x y k ++ _; rw [nbs_like h x y k, free_like h]
theorem valid_congr {S T : Sh} {i j : Nat} (hh : hasB S i j = hasB T i j) (hx : waxB S i j = waxB T i j) (w0 : S.wet (8 * j + i) = T.wet (8 * j + i)) (d0 : ∀ m, m < 3 → S.dye (24 * j + 3 * i + m) = T.dye (24 * j + 3 * i + m)) : validB S i j = validB T i j := by
  have q0 := d0 0 (by omega)
  have q1 := d0 1 (by omega)
  have q2 := d0 2 (by omega)
  rw [Nat.add_zero] at q0
  unfold validB bareB dOk wOk
  simp only [Nat.add_zero, hh, hx, w0, q0, q1, q2]
theorem Gd.give {s T : Sh} (h : Gd s T) {x y u v : Nat} (hx : x < 8) (hy : y < 8) (hu : u < 8) (hv : v < 8) (f1 : freeB s x y = true) (f2 : freeB s u v = true) (hne : 8 * y + x ≠ 8 * v + u) (hw : 2 ≤ T.wet (8 * y + x) - T.wet (8 * v + u)) : Gd s (giveS T x y u v) := by
  obtain ⟨⟨a1, a2⟩, _⟩ := ok_bounds T h.ok x y hx hy
  obtain ⟨⟨b1, b2⟩, _⟩ := ok_bounds T h.ok u v hu hv
  have hw1 : 1 ≤ T.wet (8 * y + x) := by omega
  have hi : InkOk (giveS T x y u v) := fun i => by rw [giveS_dye]; exact giveInks_ok h.ink hw1 3 i
  obtain ⟨g1, g2, g3⟩ := giveInks_wax T x y u v (T.wet (8 * y + x)) 3
  have e1 : (giveS T x y u v).wax = T.wax := g1
  have e2 : (giveS T x y u v).wide = T.wide := g2
  have e3 : (giveS T x y u v).high = T.high := g3
  refine ⟨e1.trans h.wax, e2.trans h.wide, e3.trans h.high, ?_, hi, ?_⟩
  · obtain ⟨hd, hV⟩ := (okI_iff T).1 h.ok
    refine (okI_iff _).2 ⟨by rw [e2, e3]; exact hd, fun i j hi8 hj8 => ?_⟩
    have hh : ∀ i j, hasB (giveS T x y u v) i j = hasB T i j := fun i j => by unfold hasB; rw [e2, e3]
    have hx : ∀ i j, waxB (giveS T x y u v) i j = waxB T i j := fun i j => by unfold waxB; rw [e1]
    by_cases hc : (i = x ∧ j = y) ∨ (i = u ∧ j = v)
    · have hfree : hasB T i j = true ∧ waxB T i j = false := by
        rw [has_like h, wax_like h]
        rcases hc with ⟨rfl, rfl⟩ | ⟨rfl, rfl⟩
        · exact free_parts f1
        · exact free_parts f2
      have hwb : 0 ≤ (giveS T x y u v).wet (8 * j + i) ∧ (giveS T x y u v).wet (8 * j + i) ≤ 200 := by
        rw [giveS_wet]
        rcases hc with ⟨rfl, rfl⟩ | ⟨rfl, rfl⟩
        · rw [if_neg hne, if_pos rfl]; omega
        · rw [if_pos rfl]; omega
      have d0 := hi (24 * j + 3 * i)
      have d1 := hi (24 * j + 3 * i + 1)
      have d2 := hi (24 * j + 3 * i + 2)
      unfold validB
      rw [hh, hx, hfree.1, hfree.2]
      simp only [if_true, Bool.false_eq_true, if_false, dOk, wOk, Nat.add_zero, Bool.and_eq_true, decide_eq_true_eq]
      refine ⟨⟨?_, ?_, ?_⟩, ?_⟩ <;> first | omega | (constructor <;> omega)
    · have w0 : (giveS T x y u v).wet (8 * j + i) = T.wet (8 * j + i) := by
        rw [giveS_wet, if_neg (by omega), if_neg (by omega)]
      have d0 : ∀ m, m < 3 → (giveS T x y u v).dye (24 * j + 3 * i + m) = T.dye (24 * j + 3 * i + m) := fun m hm => by
        rw [giveS_dye]
        exact giveInks_other T x y u v _ _ (fun k hk => by omega) 3 (Nat.le_refl _)
      rw [valid_congr (hh i j) (hx i j) w0 d0]
      exact hV i j hi8 hj8
  · refine ⟨by rw [e2]; exact h.fit.wide, by rw [e3]; exact h.fit.high, fun i hi8 => ?_, fun i _ => by have := hi i; omega, fun i hi8 => by rw [e1]; exact h.fit.wax i hi8⟩
    rw [giveS_wet]
    have := h.fit.wet i hi8
    by_cases c1 : i = 8 * v + u
    · rw [if_pos c1]; omega
    · rw [if_neg c1]
      by_cases c2 : i = 8 * y + x
      · rw [if_pos c2]; omega
      · rw [if_neg c2]; exact this
/-- a unit goes, if it may; the sheet, and how many have gone -/
def gv (x y : Nat) (T : Sh × Int) (q : Sp8) : Sh × Int := if 2 ≤ T.1.wet (8 * y + x) - T.1.wet (8 * q.1.2 + q.1.1) then (giveS T.1 x y q.1.1 q.1.2, T.2 + 1) else T
/-- all that a cell gives -/
def cellRun (s : Sh) (T : Sh × Int) (p : Sp8) : Sh × Int := if waxB s p.1.1 p.1.2 then T else (nbs s p.1.1 p.1.2 4).foldl (gv p.1.1 p.1.2) T
def runS (s : Sh) (l : List Sp8) : Sh × Int := l.foldl (cellRun s) (s, 0)
theorem nbs_mem {s : Sh} (hok : okI s = true) {x y : Nat} (hx : x < 8) (hy : y < 8) {q : Sp8} : ∀ k, k ≤ 4 → q ∈ nbs s x y k → freeB s q.1.1 q.1.2 = true ∧ 8 * y + x ≠ 8 * q.1.2 + q.1.1
  | 0, _, h => by simp [nbs] at h
  | k + 1, hk, h => by
    rw [show nbs s x y (k + 1) = nbs s x y k ++ (if freeB s (nextX x k) (nextY y k) then [mk8 (nextX x k).toNat (nextY y k).toNat] else []) from rfl, List.mem_append] at h
    rcases h with h | h
    · exact nbs_mem hok hx hy k (by omega) h
    · cases hf : freeB s (nextX x k) (nextY y k)
      · rw [hf] at h; simp at h
      · rw [hf, if_pos rfl, List.mem_singleton] at h
        obtain ⟨m1, m2⟩ := mk_next hok hf
        subst h
        rw [m1, m2]
        refine ⟨hf, ?_⟩
        generalize mk8 (nextX (x : Int) k).toNat (nextY (y : Int) k).toNat = q at m1 m2 ⊢
        have : k = 0 ∨ k = 1 ∨ k = 2 ∨ k = 3 := by omega
        rcases this with rfl | rfl | rfl | rfl <;> simp only [nextX, nextY] at m1 m2 <;> omega
theorem gv_gd {s : Sh} {x y : Nat} (hok : okI s = true) (hx : x < 8) (hy : y < 8) (f1 : freeB s x y = true) {T : Sh × Int} (h : Gd s T.1) {q : Sp8} (hq : q ∈ nbs s x y 4) : Gd s (gv x y T q).1 := by
  obtain ⟨f2, hne⟩ := nbs_mem hok hx hy 4 (Nat.le_refl _) hq
  unfold gv
  by_cases c : 2 ≤ T.1.wet (8 * y + x) - T.1.wet (8 * q.1.2 + q.1.1)
  · rw [if_pos c]; exact h.give hx hy q.2.1 q.2.2 f1 f2 hne c
  · rw [if_neg c]; exact h
theorem gv_cnt (x y : Nat) (T : Sh × Int) (q : Sp8) : T.2 ≤ (gv x y T q).2 ∧ (gv x y T q).2 ≤ T.2 + 1 := by
  unfold gv
  split
  · exact ⟨by show T.2 ≤ T.2 + 1; omega, by show T.2 + 1 ≤ T.2 + 1; omega⟩
  · exact ⟨by omega, by omega⟩
theorem fold_gd {s : Sh} {x y : Nat} (hok : okI s = true) (hx : x < 8) (hy : y < 8) (f1 : freeB s x y = true) : ∀ (l : List Sp8), (∀ q ∈ l, q ∈ nbs s x y 4) → ∀ T : Sh × Int, Gd s T.1 → Gd s (l.foldl (gv x y) T).1 ∧ T.2 ≤ (l.foldl (gv x y) T).2 ∧ (l.foldl (gv x y) T).2 ≤ T.2 + l.length
  | [], _, T, h => ⟨h, by simp, by simp⟩
  | q :: l, hl, T, h => by
    obtain ⟨r1, r2, r3⟩ := fold_gd hok hx hy f1 l (fun q hq => hl q (List.mem_cons_of_mem _ hq)) (gv x y T q) (gv_gd hok hx hy f1 h (hl q List.mem_cons_self))
    have := gv_cnt x y T q
    rw [List.foldl_cons, List.length_cons]
    exact ⟨r1, by omega, by omega⟩
theorem cell_gd {s : Sh} (hok : okI s = true) {T : Sh × Int} (h : Gd s T.1) {p : Sp8} (hp : hasB s p.1.1 p.1.2 = true) : Gd s (cellRun s T p).1 ∧ T.2 ≤ (cellRun s T p).2 ∧ (cellRun s T p).2 ≤ T.2 + 4 := by
  unfold cellRun
  cases hw : waxB s p.1.1 p.1.2
  · rw [if_neg (by simp)]
    have f1 : freeB s p.1.1 p.1.2 = true := by unfold freeB; rw [hp, Int.toNat_natCast, Int.toNat_natCast, hw]; rfl
    obtain ⟨r1, r2, r3⟩ := fold_gd hok p.2.1 p.2.2 f1 (nbs s p.1.1 p.1.2 4) (fun _ h => h) T h
    have := nbs_len s p.1.1 p.1.2 4
    exact ⟨r1, r2, by omega⟩
  · rw [if_pos rfl]; exact ⟨h, by omega, by omega⟩
theorem runS_gd {s : Sh} (hok : okI s = true) : ∀ (l : List Sp8), (∀ p ∈ l, hasB s p.1.1 p.1.2 = true) → ∀ T : Sh × Int, Gd s T.1 → Gd s (l.foldl (cellRun s) T).1 ∧ T.2 ≤ (l.foldl (cellRun s) T).2 ∧ (l.foldl (cellRun s) T).2 ≤ T.2 + 4 * l.length
  | [], _, T, h => ⟨h, by simp, by simp⟩
  | p :: l, hl, T, h => by
    obtain ⟨a1, a2, a3⟩ := cell_gd hok h (hl p List.mem_cons_self)
    obtain ⟨r1, r2, r3⟩ := runS_gd hok l (fun q hq => hl q (List.mem_cons_of_mem _ hq)) (cellRun s T p) a1
    rw [List.foldl_cons, List.length_cons]
    exact ⟨r1, by omega, by omega⟩
end Go.Proofs.YtflmkhjleifbbaaDoor
