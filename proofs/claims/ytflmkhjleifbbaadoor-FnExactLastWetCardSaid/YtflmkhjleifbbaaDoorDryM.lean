import Derived.Test.YtflmkhjleifbbaaDoorRunM
import Derived.Test.YtflmkhjleifbbaaDoorCellsN
namespace Go.Proofs.YtflmkhjleifbbaaDoor
open Go.RowKit
set_option maxRecDepth 100000
set_option linter.unusedVariables false
set_option linter.unusedSimpArgs false
/-- a place's water is set -/
def Sh.sw (s : Sh) (j : Nat) (v : Int) : Sh := ⟨s.wide, s.high, fun i => if i = j then v else s.wet i, s.dye, s.wax⟩
theorem Sh.sw_at (s : Sh) (o j : Nat) (ho : o = 2 + j) (hj : j < 64) (v : Int) : vrow 266 (over s.at o 1 fun _ => .int .i16 v) = vrow 266 (s.sw j v).at := vrow_ext _ _ _ fun i hi => by
  subst ho
  unfold over Sh.at Sh.sw
  dsimp only
  by_cases h : i = 2 + j
  · subst h
    rw [if_pos (by omega), if_neg (by omega), if_neg (by omega), if_pos (by omega), if_pos (by omega)]
  · rw [if_neg (by omega)]
    by_cases h0 : i = 0
    · rw [if_pos h0, if_pos h0]
    · rw [if_neg h0, if_neg h0]
      by_cases h1 : i = 1
      · rw [if_pos h1, if_pos h1]
      · rw [if_neg h1, if_neg h1]
        by_cases h2 : i < 66
        · rw [if_pos h2, if_pos h2, if_neg (by omega)]
        · rw [if_neg h2, if_neg h2]
theorem sw_wet (s : Sh) (j : Nat) (v : Int) (i : Nat) : (s.sw j v).wet i = if i = j then v else s.wet i := rfl
theorem sw_same (s : Sh) (j : Nat) (v : Int) (h : v = s.wet j) : s.sw j v = s := by
  obtain ⟨a, b, wet, d, x⟩ := s
  show Sh.mk a b (fun i => if i = j then v else wet i) d x = Sh.mk a b wet d x
  congr 1
  funext i
  split
  · rename_i e; rw [e]; exact h
  · rfl
/-- a place of the sheet -/
def pix (p : Sp8) : Nat := 8 * p.1.2 + p.1.1
theorem pix_lt (p : Sp8) : pix p < 64 := by have := p.2.1; have := p.2.2; unfold pix; omega
/-- how many of some cells have no water -/
def dryN (T : Sh) : List Sp8 → Int
  | [] => 0
  | q :: l => (if T.wet (pix q) = 0 then 1 else 0) + dryN T l
theorem dryN_snoc (T : Sh) (q : Sp8) : ∀ l, dryN T (l ++ [q]) = dryN T l + (if T.wet (pix q) = 0 then 1 else 0)
  | [] => by simp [dryN]
  | p :: l => by
    show _ + dryN T (l ++ [q]) = _ + dryN T l + _
    rw [dryN_snoc T q l]; omega
theorem dryN_bd (T : Sh) : ∀ l, 0 ≤ dryN T l ∧ dryN T l ≤ (l.length : Int)
  | [] => by simp [dryN]
  | p :: l => by
    obtain ⟨h1, h2⟩ := dryN_bd T l
    simp only [dryN, List.length_cons]
    split <;> omega
/-- what a cell loses -/
def loss (s T : Sh) (p : Sp8) : Int := min (1 + dryN T (nbs s p.1.1 p.1.2 4)) (T.wet (pix p))
/-- a cell dries: B as it was at the beginning of the round -/
def cellDry (s B : Sh) (T : Sh × Int) (p : Sp8) : Sh × Int := (T.1.sw (pix p) (T.1.wet (pix p) - loss s B p), T.2 + loss s B p)
theorem loss_bd {s B : Sh} {p : Sp8} (h : 0 ≤ B.wet (pix p)) : 0 ≤ loss s B p ∧ loss s B p ≤ B.wet (pix p) ∧ loss s B p ≤ 5 := by
  obtain ⟨h1, h2⟩ := dryN_bd B (nbs s p.1.1 p.1.2 4)
  have := nbs_len s p.1.1 p.1.2 4
  unfold loss
  generalize dryN B (nbs s p.1.1 p.1.2 4) = n at *
  generalize B.wet (pix p) = m at *
  rw [Int.min_def]; split <;> omega
theorem loss_none {s B : Sh} {p : Sp8} (h : B.wet (pix p) = 0) : loss s B p = 0 := by
  have := loss_bd (s := s) (B := B) (p := p) (by omega)
  omega
theorem cellDry_none {s B : Sh} {T : Sh × Int} {p : Sp8} (h : loss s B p = 0) : cellDry s B T p = T := by
  unfold cellDry
  rw [h, sw_same _ _ _ (by omega)]
  simp
/-- what a round of drying over some cells makes -/
structure Dried (s B : Sh) (n : Nat) (T : Sh × Int) : Prop where
  wax : T.1.wax = B.wax
  wide : T.1.wide = B.wide
  high : T.1.high = B.high
  dye : T.1.dye = B.dye
  low : ∀ i, i < 64 → 0 ≤ T.1.wet i
  up : ∀ i, T.1.wet i ≤ B.wet i
  far : ∀ i, 64 ≤ i → T.1.wet i = B.wet i
  sum : 0 ≤ T.2 ∧ T.2 ≤ 5 * (n : Int)
theorem dry_fold (s B : Sh) (hB : ∀ i, i < 64 → 0 ≤ B.wet i) : ∀ (l : List Sp8) (n : Nat) (T : Sh × Int), (l.map pix).Nodup → Dried s B n T → (∀ p ∈ l, T.1.wet (pix p) = B.wet (pix p)) →
    Dried s B (n + l.length) (l.foldl (cellDry s B) T) ∧ ∀ i, i ∉ l.map pix → (l.foldl (cellDry s B) T).1.wet i = T.1.wet i
  | [], n, T, _, h, _ => ⟨h, fun _ _ => rfl⟩
  | p :: l, n, T, hn, h, hl => by
    obtain ⟨hn1, hn2⟩ := List.nodup_cons.1 hn
    have hp := hl p List.mem_cons_self
    have hpl := pix_lt p
    obtain ⟨b1, b2, b3⟩ := loss_bd (s := s) (B := B) (p := p) (hB _ hpl)
    have hw : ∀ i, (cellDry s B T p).1.wet i = if i = pix p then T.1.wet (pix p) - loss s B p else T.1.wet i := fun _ => rfl
    have hs : (cellDry s B T p).2 = T.2 + loss s B p := rfl
    have hD : Dried s B (n + 1) (cellDry s B T p) := by
      refine ⟨h.wax, h.wide, h.high, h.dye, fun i hi => ?_, fun i => ?_, fun i hi => ?_, ?_⟩
      · rw [hw]; split
        · omega
        · exact h.low i hi
      · rw [hw]; split
        · rename_i e; rw [e]; omega
        · exact h.up i
      · rw [hw, if_neg (by omega)]; exact h.far i hi
      · have := h.sum
        rw [hs]; omega
    obtain ⟨r1, r2⟩ := dry_fold s B hB l (n + 1) (cellDry s B T p) hn2 hD (fun q hq => by
      rw [hw, if_neg (fun e : pix q = pix p => hn1 (by rw [← e]; exact List.mem_map_of_mem hq))]
      exact hl q (List.mem_cons_of_mem _ hq))
    rw [List.foldl_cons, List.length_cons, show n + (l.length + 1) = n + 1 + l.length by omega]
    refine ⟨r1, fun i hi => ?_⟩
    rw [r2 i (fun h' => hi (by simp only [List.map_cons, List.mem_cons]; exact .inr h')), hw, if_neg (fun e => hi (by simp only [List.map_cons, List.mem_cons]; exact .inl e))]
theorem Dried.start (s B : Sh) (hB : ∀ i, i < 64 → 0 ≤ B.wet i) : Dried s B 0 (B, 0) := ⟨rfl, rfl, rfl, rfl, hB, fun _ => Int.le_refl _, fun _ _ => rfl, by simp, by simp⟩
/-- a valid sheet with less water is one -/
theorem valid_lessW {S T : Sh} {i j : Nat} (e1 : S.wax = T.wax) (e2 : S.wide = T.wide) (e3 : S.high = T.high) (e4 : S.dye = T.dye) (hd : 0 ≤ S.wet (8 * j + i) ∧ S.wet (8 * j + i) ≤ T.wet (8 * j + i)) (h : validB T i j = true) : validB S i j = true := by
  have hh : hasB S i j = hasB T i j := by unfold hasB; rw [e2, e3]
  have hx : waxB S i j = waxB T i j := by unfold waxB; rw [e1]
  unfold validB bareB dOk wOk at h ⊢
  rw [hh, hx, e4]
  clear hh hx
  generalize hasB T i j = p at h ⊢
  generalize waxB T i j = q at h ⊢
  cases p <;> cases q <;> simp at h ⊢ <;> omega
theorem Gd.dried {s B : Sh} {n : Nat} {T : Sh × Int} (h : Gd s B) (d : Dried s B n T) : Gd s T.1 := by
  refine ⟨d.wax.trans h.wax, d.wide.trans h.wide, d.high.trans h.high, ?_, fun i => by rw [d.dye]; exact h.ink i, ?_⟩
  · obtain ⟨hdm, hV⟩ := (okI_iff B).1 h.ok
    exact (okI_iff _).2 ⟨by rw [d.wide, d.high]; exact hdm, fun i j hi hj => valid_lessW d.wax d.wide d.high d.dye ⟨d.low _ (by omega), d.up _⟩ (hV i j hi hj)⟩
  · refine ⟨by rw [d.wide]; exact h.fit.wide, by rw [d.high]; exact h.fit.high, fun i hi => ?_, by rw [d.dye]; exact h.fit.dye, by rw [d.wax]; exact h.fit.wax⟩
    have := h.fit.wet i hi
    have := d.low i hi
    have := d.up i
    omega
theorem wet_pos {s T : Sh} (h : Gd s T) (i : Nat) (hi : i < 64) : 0 ≤ T.wet i ∧ T.wet i ≤ 200 := by
  obtain ⟨h1, _⟩ := ok_bounds T h.ok (i % 8) (i / 8) (by omega) (by omega)
  rw [show 8 * (i / 8) + i % 8 = i by omega] at h1
  exact h1
theorem cells_pix {l : List Sp8} (h : (l.map (·.1)).Nodup) : (l.map pix).Nodup := by
  have e : l.map pix = (l.map (·.1)).map fun q : Nat × Nat => 8 * q.2 + q.1 := by rw [List.map_map]; rfl
  rw [e]
  have hb : ∀ q ∈ l.map (·.1), q.1 < 8 ∧ q.2 < 8 := fun q hq => by
    obtain ⟨p, _, rfl⟩ := List.mem_map.1 hq
    exact p.2
  generalize l.map (·.1) = m at h hb ⊢
  induction m with
  | nil => simp
  | cons q m ih =>
    obtain ⟨h1, h2⟩ := List.nodup_cons.1 h
    refine List.nodup_cons.2 ⟨fun hq => ?_, ih h2 (fun q hq => hb q (List.mem_cons_of_mem _ hq))⟩
    obtain ⟨r, hr, er⟩ := List.mem_map.1 hq
    have b1 := hb q List.mem_cons_self
    have b2 := hb r (List.mem_cons_of_mem _ hr)
    have : r = q := Prod.ext (by simp only at er; omega) (by simp only at er; omega)
    exact h1 (this ▸ hr)
theorem cellsL_pix (a c : Nat) (ha : a ≤ 8) (hc : c ≤ 8) : ((cellsL a c).map pix).Nodup := cells_pix (by rw [cellsL_val a c ha c hc]; exact pairsL_nodup a c)
theorem dry_take {s B : Sh} (h : Gd s B) {l : List Sp8} (hn : (l.map pix).Nodup) (k : Nat) : Dried s B (l.take k).length ((l.take k).foldl (cellDry s B) (B, 0)) ∧ ∀ (hk : k < l.length), ((l.take k).foldl (cellDry s B) (B, 0)).1.wet (pix l[k]) = B.wet (pix l[k]) := by
  have hB : ∀ i, i < 64 → 0 ≤ B.wet i := fun i hi => (wet_pos h i hi).1
  have hn' : ((l.take k).map pix).Nodup := by rw [List.map_take]; exact (List.take_sublist _ _).nodup hn
  obtain ⟨h1, h2⟩ := dry_fold s B hB (l.take k) 0 (B, 0) hn' (Dried.start s B hB) (fun _ _ => rfl)
  rw [Nat.zero_add] at h1
  refine ⟨h1, fun hk => h2 _ fun hm => ?_⟩
  have hd : l.map pix = (l.take k).map pix ++ (l.drop k).map pix := by rw [← List.map_append, List.take_append_drop]
  rw [hd, List.nodup_append] at hn
  refine hn.2.2 _ hm (pix l[k]) ?_ rfl
  exact List.mem_map_of_mem (by rw [List.drop_eq_getElem_cons hk]; exact List.mem_cons_self)
theorem dry_all {s B : Sh} (h : Gd s B) {l : List Sp8} (hn : (l.map pix).Nodup) : Dried s B l.length (l.foldl (cellDry s B) (B, 0)) := by
  have := (dry_take h hn l.length).1
  rwa [List.take_length] at this
/-- waxed cells lose nothing -/
theorem loss_wax {s B : Sh} (h : Gd s B) {p : Sp8} (hb : hasB s p.1.1 p.1.2 = true) (hx : waxB s p.1.1 p.1.2 = true) : loss s B p = 0 := by
  refine loss_none ?_
  obtain ⟨_, hV⟩ := (okI_iff B).1 h.ok
  have := hV p.1.1 p.1.2 p.2.1 p.2.2
  unfold validB at this
  rw [has_like h, wax_like h, hb, hx] at this
  simp [bareB] at this
  exact this.1
theorem dry_filter {s B : Sh} (h : Gd s B) : ∀ (l : List Sp8), (∀ p ∈ l, hasB s p.1.1 p.1.2 = true) → ∀ T : Sh × Int, (l.filter fun p => !waxB s p.1.1 p.1.2).foldl (cellDry s B) T = l.foldl (cellDry s B) T
  | [], _, _ => rfl
  | p :: l, hl, T => by
    rw [List.filter_cons, List.foldl_cons]
    cases hx : waxB s p.1.1 p.1.2
    · rw [Bool.not_false, if_pos rfl, List.foldl_cons]
      exact dry_filter h l (fun q hq => hl q (List.mem_cons_of_mem _ hq)) _
    · rw [Bool.not_true, if_neg (by simp), cellDry_none (loss_wax h (hl p List.mem_cons_self) hx)]
      exact dry_filter h l (fun q hq => hl q (List.mem_cons_of_mem _ hq)) _
theorem dry_mono {s B : Sh} (hB : ∀ i, i < 64 → 0 ≤ B.wet i) : ∀ (l : List Sp8) (T : Sh × Int), T.2 ≤ (l.foldl (cellDry s B) T).2 ∧ ((l.foldl (cellDry s B) T).2 = T.2 → l.foldl (cellDry s B) T = T)
  | [], T => ⟨Int.le_refl _, fun _ => rfl⟩
  | p :: l, T => by
    obtain ⟨h1, h2⟩ := dry_mono (s := s) hB l (cellDry s B T p)
    have hb := (loss_bd (s := s) (B := B) (p := p) (hB _ (pix_lt p))).1
    have hs : (cellDry s B T p).2 = T.2 + loss s B p := rfl
    rw [List.foldl_cons]
    refine ⟨by omega, fun h => ?_⟩
    have h0 : loss s B p = 0 := by omega
    rw [cellDry_none h0] at h h2 ⊢
    exact h2 h
theorem dry_zero {s B : Sh} (h : Gd s B) {l : List Sp8} (hz : (l.foldl (cellDry s B) (B, 0)).2 = 0) : (l.foldl (cellDry s B) (B, 0)).1 = B := by
  rw [(dry_mono (fun i hi => (wet_pos h i hi).1) l (B, 0)).2 hz]
theorem cellDry_like {s B : Sh} (h : Gd s B) : cellDry s B = cellDry B B := by
  have e : ∀ p, loss s B p = loss B B p := fun p => by unfold loss; rw [nbs_like h]
  funext T p
  unfold cellDry
  rw [e]
end Go.Proofs.YtflmkhjleifbbaaDoor
