import Derived.Deep.RegionHeld3
import Derived.ScopeJumps
import Derived.WalkMore
import Derived.Test.YtgbhchmpeioaiaaDoorIrun
import Derived.Test.YtgbhchmpeioaiaaDoorLrun
import Derived.Test.YtgbhchmpeioaiaaDoorG1
import Derived.Test.YtgbhchmpeioaiaaDoorCodeOf
namespace Go.Proofs.YtgbhchmpeioaiaaDoor
open Go.RowKit
set_option maxRecDepth 100000
set_option linter.unusedVariables false
set_option linter.unusedSimpArgs false
theorem cellRun_like {s T : Sh} (h : Gd s T) : cellRun T = cellRun s := by
  funext U p
  unfold cellRun
  rw [wax_like h, nbs_like h]
theorem runS_like {s T : Sh} (h : Gd s T) (l : List Sp8) : runS T l = l.foldl (cellRun s) (T, 0) := by unfold runS; rw [cellRun_like h]
/-- a step that counts up, and changes nothing where it does not -/
def Counts (f : Sh × Int → Sp8 → Sh × Int) : Prop := ∀ T p, T.2 ≤ (f T p).2 ∧ ((f T p).2 = T.2 → f T p = T)
theorem Counts.fold {f : Sh × Int → Sp8 → Sh × Int} (h : Counts f) : ∀ (l : List Sp8) (T : Sh × Int), T.2 ≤ (l.foldl f T).2 ∧ ((l.foldl f T).2 = T.2 → l.foldl f T = T)
  | [], T => ⟨Int.le_refl _, fun _ => rfl⟩
  | p :: l, T => by
    obtain ⟨a1, a2⟩ := h T p
    obtain ⟨b1, b2⟩ := h.fold l (f T p)
    rw [List.foldl_cons]
    refine ⟨by omega, fun e => ?_⟩
    have e1 : (f T p).2 = T.2 := by omega
    have e2 := a2 e1
    rw [b2 (by omega), e2]
theorem gv_counts (x y : Nat) : Counts (gv x y) := fun T q => by
  unfold gv
  split
  · exact ⟨by show T.2 ≤ T.2 + 1; omega, fun e => by have : T.2 + 1 = T.2 := e; omega⟩
  · exact ⟨Int.le_refl _, fun _ => rfl⟩
theorem cell_counts (s : Sh) : Counts (cellRun s) := fun T p => by
  unfold cellRun
  split
  · exact ⟨Int.le_refl _, fun _ => rfl⟩
  · exact (gv_counts _ _).fold _ _
theorem run_zero {s T : Sh} {l : List Sp8} (h : (l.foldl (cellRun s) (T, 0)).2 = 0) : (l.foldl (cellRun s) (T, 0)).1 = T := by
  rw [((cell_counts s).fold l (T, 0)).2 h]
/-- rounds of running until one gives nothing: the sheet, how many rounds, and the code -/
def untilS (s : Sh) (l : List Sp8) : Nat → Nat → Sh → Sh × Int × Int
  | 0, _, _ => (Sh.zero, 0, 7)
  | f + 1, n, T => if (l.foldl (cellRun s) (T, 0)).2 = 0 then (T, (n : Int), 0) else if n = 500 then (Sh.zero, 0, 7) else untilS s l f (n + 1) (l.foldl (cellRun s) (T, 0)).1
set_option linter.unusedSimpArgs false
set_option maxHeartbeats 4000000 in
theorem luntil_any (s : Sh) (a c : Nat) (w : World) (ea : s.wide = a) (ec : s.high = c) (ha : 1 ≤ a ∧ a ≤ 8) (hc : 1 ≤ c ∧ c ≤ 8) (hf : s.fit) (ho : okI s = true) (hi : InkOk s) : Calls Tryd.prog 81 #[.agg s.row] w fun e w' => e = .returned (.tuple #[.agg (untilS s (cellsL a c) 501 0 s).1.row, .int .i64 (untilS s (cellsL a c) 501 0 s).2.1, .int .i64 (untilS s (cellsL a c) 501 0 s).2.2]) ∧ Below w.heap.size w w' := by
  have HL := Go.Lib.hid fun (T : Sh) (hT : Gd s T) w => lrun_any T a c w (by rw [hT.wide, ea]) (by rw [hT.high, ec]) ha hc hT.ok hT.ink hT.fit
  have hmem : ∀ p ∈ cellsL a c, hasB s p.1.1 p.1.2 = true := fun p hp => by
    have h2 : p.1 ∈ pairsL a c := by rw [← cellsL_val a c (by omega) c (by omega)]; exact List.mem_map_of_mem hp
    obtain ⟨h3, h4⟩ := pairsL_mem h2
    unfold hasB
    simp; omega
  have hn : (cellsL a c).length = a * c := cellsL_length a c
  have hac : a * c ≤ 64 := Nat.mul_le_mul ha.2 hc.2
  have HGd := Go.Lib.hid fun T hT => runS_gd ho (cellsL a c) hmem (T, 0) hT
  have hst : Gd s s := Gd.start ho hi hf
  clear ea ec ha hc hf ho hi hmem
  generalize cellsL a c = L at *
  have zz := zero_sheet
  have hB : Hid (Below w.heap.size w ((w.alloc (.cells (vrow 266 s.at) 35)).alloc (.cells (vrow 266 Sh.zero.at) 35))) := (((Below.refl w.heap.size w).alloc (by simp <;> omega) _).alloc (by simp <;> omega) _)
  have P : Hid (((w.alloc (.cells (vrow 266 s.at) 35)).alloc (.cells (vrow 266 Sh.zero.at) 35)).heap[(w.heap.size)]? = some (.cells (vrow 266 s.at) 35)) := heap_past _ _ _ _ (by first | omega | (simp <;> omega)) (heap_at _ _ _ (by simp))
  have Z : Hid (((w.alloc (.cells (vrow 266 s.at) 35)).alloc (.cells (vrow 266 Sh.zero.at) 35)).heap[(w.heap.size + 1)]? = some (.cells (vrow 266 Sh.zero.at) 35)) := heap_at _ _ _ (by simp)
  go_enter Tryd.func81, Tryd.ntmps81
  go_wp2
  generalize (w.alloc _).alloc _ = W0 at P Z hB ⊢
  go_loopw [5] (fun nv wr => ∃ (n : Nat) (T : Sh), n ≤ 500 ∧ nv = .int .i64 n ∧ wr.heap[w.heap.size]? = some (.cells (vrow 266 T.at) 35) ∧ wr.heap[w.heap.size + 1]? = some (.cells (vrow 266 Sh.zero.at) 35) ∧ Gd s T ∧ untilS s L (501 - n) n T = untilS s L 501 0 s ∧ Below w.heap.size w wr) (fun nv _ => 501 - (intOf nv).toNat)
  case atStart => exact ⟨0, s, by omega, rfl, P.out, Z.out, hst, rfl, hB.out⟩
  case round =>
    clear P Z hB hst
    obtain ⟨n, T, hn5, rfl, P, Z, hT, hU, hB⟩ := hrel
    obtain ⟨hT2, g1, g2⟩ := HGd.out T hT
    have HLT0 := fun w => HL.out T hT w
    rw [runS_like hT] at HLT0
    have hz := run_zero (s := s) (T := T) (l := L)
    rw [show 501 - n = (500 - n) + 1 by omega, show untilS s L ((500 - n) + 1) n T = if (L.foldl (cellRun s) (T, 0)).2 = 0 then (T, (n : Int), 0) else if n = 500 then (Sh.zero, 0, 7) else untilS s L (500 - n) (n + 1) (L.foldl (cellRun s) (T, 0)).1 from rfl] at hU
    generalize L.foldl (cellRun s) (T, 0) = TN at *
    obtain ⟨T', k⟩ := TN
    change Gd s T' at hT2
    change (0 : Int) ≤ k at g1
    change k ≤ (0 : Int) + 4 * (L.length : Int) at g2
    change (if k = 0 then (T, (n : Int), 0) else if n = 500 then (Sh.zero, 0, 7) else untilS s L (500 - n) (n + 1) T') = _ at hU
    have HLT := Go.Lib.hid HLT0
    clear HLT0 hz
    have HU := Go.Lib.hid hU
    replace P := Go.Lib.hid P; replace Z := Go.Lib.hid Z; replace hB := Go.Lib.hid hB
    have hsz := hB.out.size
    clear hU
    by_cases hk : k = 0
    · have hd : (k == 0) = true := by simpa using hk
      have hd2 : decide (k = 0) = true := by simpa using hk
      go_wp2_with (first
        | go_skip
        | (with_reducible refine wlAt 11 rfl ?_; refine wpList_loadall rfl 35 (.tmp 1) rfl _ rfl 266 T.at 35 _ Tryd.underlying35 rfl size_sheet P.out ?_)
        | (go_at_call 74; (refine (HLT.out _).mono ?_; rintro e w2 ⟨rfl, hb⟩; replace P := Go.Lib.hid (row_next hb P.out); replace Z := Go.Lib.hid (row_next hb Z.out); replace hB := Go.Lib.hid (below_next hB.out hb); clear hb))
        | (with_reducible refine wlOp (.store 35 (.tmp 6) (.tmp 13)) rfl ?_; refine wpList_storeall rfl 35 (.tmp 6) (.tmp 13) rfl _ rfl 266 Sh.zero.at T'.at rfl 35 size_sheet (heap_at _ _ _ rfl) (fun i _ => Sh.one _ i) ?_; rw [setRow_at _ _ _ _ _ rfl]; have V := Go.Lib.hid (heap_at w2 (.cells (vrow 266 T'.at) 35) _ rfl); have nP := row_lt P.out; have nZ := row_lt Z.out; replace P := Go.Lib.hid (heap_past _ (.cells (vrow 266 T'.at) 35) _ _ nP P.out); replace Z := Go.Lib.hid (heap_past _ (.cells (vrow 266 T'.at) 35) _ _ nZ Z.out); replace hB := Go.Lib.hid (hB.out.alloc hB.out.size (.cells (vrow 266 T'.at) 35)); generalize w2.heap.size = nb at V nP nZ ⊢; generalize w2.alloc _ = w3 at P Z V hB ⊢)
        | (with_reducible refine wlAt 17 rfl ?_; refine wpList_loadall rfl 35 (.tmp 1) rfl _ rfl 266 T.at 35 _ Tryd.underlying35 rfl size_sheet P.out ?_)
        | (with_reducible refine wlOp (.store 35 (.tmp 2) (.tmp 17)) rfl ?_; refine wpList_storeall rfl 35 (.tmp 2) (.tmp 17) rfl (w.heap.size + 1) rfl 266 Sh.zero.at T.at rfl 35 size_sheet Z.out (fun i _ => Sh.one _ i) ?_; replace Z := Go.Lib.hid (row_set Z.out (vrow 266 T.at)); replace hB := Go.Lib.hid (Below_setRow hB.out (show w.heap.size ≤ w.heap.size + 1 by omega) (vrow 266 T.at))))
      exact ret_row3 Tryd.results81 (w.heap.size + 1) 266 T.at 35 _ Tryd.underlying35 rfl size_sheet (.int .i64 n) (.int .i64 0) rfl rfl rfl rfl Z.out ⟨by rw [← HU.out, if_pos hk], hB.out⟩
    · have hd : (k == 0) = false := by simpa using hk
      have hd2 : decide (k = 0) = false := by simpa using hk
      by_cases h5 : n = 500
      · subst h5
        go_wp2_with (first
          | go_skip
          | (with_reducible refine wlAt 11 rfl ?_; refine wpList_loadall rfl 35 (.tmp 1) rfl _ rfl 266 T.at 35 _ Tryd.underlying35 rfl size_sheet P.out ?_)
          | (go_at_call 74; (refine (HLT.out _).mono ?_; rintro e w2 ⟨rfl, hb⟩; replace P := Go.Lib.hid (row_next hb P.out); replace Z := Go.Lib.hid (row_next hb Z.out); replace hB := Go.Lib.hid (below_next hB.out hb); clear hb))
          | (with_reducible refine wlOp (.store 35 (.tmp 6) (.tmp 13)) rfl ?_; refine wpList_storeall rfl 35 (.tmp 6) (.tmp 13) rfl _ rfl 266 Sh.zero.at T'.at rfl 35 size_sheet (heap_at _ _ _ rfl) (fun i _ => Sh.one _ i) ?_; rw [setRow_at _ _ _ _ _ rfl]; have V := Go.Lib.hid (heap_at w2 (.cells (vrow 266 T'.at) 35) _ rfl); have nP := row_lt P.out; have nZ := row_lt Z.out; replace P := Go.Lib.hid (heap_past _ (.cells (vrow 266 T'.at) 35) _ _ nP P.out); replace Z := Go.Lib.hid (heap_past _ (.cells (vrow 266 T'.at) 35) _ _ nZ Z.out); replace hB := Go.Lib.hid (hB.out.alloc hB.out.size (.cells (vrow 266 T'.at) 35)); generalize w2.heap.size = nb at V nP nZ ⊢; generalize w2.alloc _ = w3 at P Z V hB ⊢)
          | (with_reducible refine wlAt 21 rfl ?_; refine wpList_built rfl 35 [] rfl [] (by rfl) _ built_zero ?_)
          | (with_reducible refine wlOp (.store 35 (.tmp 2) (.tmp 21)) rfl ?_; refine wpList_storeall rfl 35 (.tmp 2) (.tmp 21) rfl (w.heap.size + 1) rfl 266 Sh.zero.at Sh.zero.at rfl 35 size_sheet Z.out (fun i _ => Sh.one _ i) ?_; replace Z := Go.Lib.hid (row_set Z.out (vrow 266 Sh.zero.at)); replace hB := Go.Lib.hid (Below_setRow hB.out (show w.heap.size ≤ w.heap.size + 1 by omega) (vrow 266 Sh.zero.at))))
        exact ret_row3 Tryd.results81 (w.heap.size + 1) 266 Sh.zero.at 35 _ Tryd.underlying35 rfl size_sheet (.int .i64 0) (.int .i64 7) rfl rfl rfl rfl Z.out ⟨by rw [← HU.out, if_neg hk]; first | rw [if_pos rfl] | rw [if_pos trivial], hB.out⟩
      · have hd5 : ((n : Int) == 500) = false := by simp; omega
        have hd6 : decide ((n : Int) = 500) = false := by simp; omega
        go_wp2_with (first
          | go_skip
          | (with_reducible refine wlAt 11 rfl ?_; refine wpList_loadall rfl 35 (.tmp 1) rfl _ rfl 266 T.at 35 _ Tryd.underlying35 rfl size_sheet P.out ?_)
          | (go_at_call 74; (refine (HLT.out _).mono ?_; rintro e w2 ⟨rfl, hb⟩; replace P := Go.Lib.hid (row_next hb P.out); replace Z := Go.Lib.hid (row_next hb Z.out); replace hB := Go.Lib.hid (below_next hB.out hb); clear hb))
          | (with_reducible refine wlOp (.store 35 (.tmp 6) (.tmp 13)) rfl ?_; refine wpList_storeall rfl 35 (.tmp 6) (.tmp 13) rfl _ rfl 266 Sh.zero.at T'.at rfl 35 size_sheet (heap_at _ _ _ rfl) (fun i _ => Sh.one _ i) ?_; rw [setRow_at _ _ _ _ _ rfl]; have V := Go.Lib.hid (heap_at w2 (.cells (vrow 266 T'.at) 35) _ rfl); have nP := row_lt P.out; have nZ := row_lt Z.out; replace P := Go.Lib.hid (heap_past _ (.cells (vrow 266 T'.at) 35) _ _ nP P.out); replace Z := Go.Lib.hid (heap_past _ (.cells (vrow 266 T'.at) 35) _ _ nZ Z.out); replace hB := Go.Lib.hid (hB.out.alloc hB.out.size (.cells (vrow 266 T'.at) 35)); generalize w2.heap.size = nb at V nP nZ ⊢; generalize w2.alloc _ = w3 at P Z V hB ⊢)
          | (with_reducible refine wlAt 22 rfl ?_; refine wpList_loadall rfl 35 (.tmp 6) rfl nb rfl 266 T'.at 35 _ Tryd.underlying35 rfl size_sheet V.out ?_)
          | (with_reducible refine wlOp (.store 35 (.tmp 1) (.tmp 22)) rfl ?_; refine wpList_storeall rfl 35 (.tmp 1) (.tmp 22) rfl (w.heap.size) rfl 266 T.at T'.at rfl 35 size_sheet P.out (fun i _ => Sh.one _ i) ?_; replace Z := Go.Lib.hid (row_set' (g := w.heap.size) (show w.heap.size + 1 ≠ w.heap.size by omega) Z.out (vrow 266 T'.at)); replace P := Go.Lib.hid (row_set P.out (vrow 266 T'.at)); replace hB := Go.Lib.hid (Below_setRow hB.out (show w.heap.size ≤ w.heap.size by omega) (vrow 266 T'.at))))
        go_roundw
        case rel => exact ⟨n + 1, T', by omega, by go_num, P.out, Z.out, hT2, by rw [← HU.out, if_neg hk, if_neg h5, show 501 - (n + 1) = 500 - n by omega], hB.out⟩
        case measure => simp [intOf]; omega
set_option linter.unusedSimpArgs false
theorem own_row_ge {W : World} {base g cap size n : Nat} {t : TypeId} {xs : List Value} (h : W.ownsRow base t size (.slice (some ⟨g, 0, none⟩) n cap) n xs) : base ≤ g := by
  rcases h.2 with ⟨hv, _⟩ | ⟨g', cap', cur, hv, hb, _⟩
  · cases hv
  · simp only [Value.slice.injEq, Option.some.injEq, Addr.mk.injEq] at hv
    obtain ⟨⟨rfl, _⟩, _, rfl⟩ := hv
    exact hb
theorem grown_row {a b : World} (h : Below a.heap.size a b) (r : Option Nat) : a.grownBy b r := ⟨h.os, h.tape, h.output, h.size, fun k hk _ => h.block k hk⟩
theorem untilS_step (s : Sh) (l : List Sp8) (n : Nat) (T : Sh) (h : n ≤ 500) : untilS s l (501 - n) n T = if (l.foldl (cellRun s) (T, 0)).2 = 0 then (T, (n : Int), 0) else if n = 500 then (Sh.zero, 0, 7) else untilS s l (501 - (n + 1)) (n + 1) (l.foldl (cellRun s) (T, 0)).1 := by
  obtain ⟨m, hm⟩ : ∃ m, 501 - n = m + 1 := ⟨500 - n, by omega⟩
  rw [hm, show 501 - (n + 1) = m by omega]
  rfl
theorem GRow.kept {W W' : World} {gp gl mt : Nat} {s : Sh} {l : List Sp8} {f f2 : Nat → Value} (h : GRow W gp gl s l f f2) (hg : W.grownBy W' (some mt)) (h1 : gp ≠ mt) (h2 : gl ≠ mt) : GRow W' gp gl s l f f2 :=
  ⟨(hg.block gp (row_lt h.pl) (by simpa using h1)).trans h.pl, (hg.block gl (row_lt h.li) (by simpa using h2)).trans h.li, h.hl, h.at_, h.nb⟩
set_option maxHeartbeats 4000000 in
theorem settle_any (s : Sh) (a c mt : Nat) (e : ErrE) (w0 w : World) (hE : Errs e w0) (hB0 : Below w0.heap.size w0 w) (hmt : w0.heap.size ≤ mt) (ht : w.heap[mt]? = some (.cells (vrow 266 s.at) 35)) (ea : s.wide = a) (ec : s.high = c) (ha : 1 ≤ a ∧ a ≤ 8) (hc : 1 ≤ c ∧ c ≤ 8) (hf : s.fit) (ho : okI s = true) (hi : InkOk s) :
    Calls Tryd.prog 82 #[.pointer (some ⟨mt, 0, none⟩)] w fun o w' => o = .returned (.tuple #[.int .i64 (untilS s (cellsL a c) 501 0 s).2.1, if (untilS s (cellsL a c) 501 0 s).2.2 = 0 then .nilIface else errP e 7]) ∧ ((untilS s (cellsL a c) 501 0 s).2.2 = 0 → w'.heap[mt]? = some (.cells (vrow 266 (untilS s (cellsL a c) 501 0 s).1.at) 35)) ∧ w.grownBy w' (some mt) := by
  have HGR := Go.Lib.hid fun w => ground_any s a c w ea ec ha.2 hc.2 ho
  have hmem : ∀ p ∈ cellsL a c, hasB s p.1.1 p.1.2 = true := fun p hp => by
    have h2 : p.1 ∈ pairsL a c := by rw [← cellsL_val a c (by omega) c (by omega)]; exact List.mem_map_of_mem hp
    obtain ⟨h3, h4⟩ := pairsL_mem h2
    unfold hasB
    simp; omega
  have hfree : ∀ p ∈ dryL s (cellsL a c), hasB s p.1.1 p.1.2 = true ∧ waxB s p.1.1 p.1.2 = false := fun p hp => by
    obtain ⟨hp1, hp2⟩ := List.mem_filter.1 hp
    exact ⟨hmem p hp1, by simpa using hp2⟩
  have hn : (cellsL a c).length = a * c := cellsL_length a c
  have hac : a * c ≤ 64 := Nat.mul_le_mul ha.2 hc.2
  have HGd := Go.Lib.hid fun T hT => runS_gd ho (cellsL a c) hmem (T, 0) hT
  have HI := Go.Lib.hid fun T hT gp gl f f2 w hG ht => irun_any s T (dryL s (cellsL a c)) mt gp gl f f2 w ho hG ht hT hfree
  have hT : Gd s s := Gd.start ho hi hf
  clear ea ec ha hc hf ho hi hmem hfree
  generalize cellsL a c = L at *
  have ngm := row_lt ht
  have P := Go.Lib.hid ht
  clear ht
  go_enter Tryd.func82, Tryd.ntmps82
  go_wp2
  refine wp_scope_jumps 0 (fun a' w' => ∃ (n : Nat) (T : Sh) (gp gl : Nat) (f f2 : Nat → Value) (u1 u6 u7 u8 u9 u10 u11 u12 u13 u14 u15 u16 u17 u18 u19 : Value), a' = { tmps := #[.pointer (some ⟨mt, 0, none⟩), u1, .int .i64 0, .nilIface, .slice (some ⟨gp, 0, none⟩) (dryL s L).length 64, .int .i64 n, u6, u7, u8, u9, u10, u11, u12, u13, u14, u15, u16, u17, u18, u19], defers := [] } ∧ n ≤ 500 ∧ w'.heap[mt]? = some (.cells (vrow 266 T.at) 35) ∧ Gd s T ∧ untilS s L (501 - n) n T = untilS s L 501 0 s ∧ GRow w' gp gl s (dryL s L) f f2 ∧ gp ≠ mt ∧ gl ≠ mt ∧ w.grownBy w' (some mt)) (fun a' _ => 501 - (intOf (a'.tmps.getD 5 undef)).toNat) rfl ?_ ?_
  · go_wp2_with (first
      | go_skip
      | (with_reducible refine wlAt 8 rfl ?_; refine wpList_loadall rfl 35 (.tmp 7) rfl _ rfl 266 s.at 35 _ Tryd.underlying35 rfl size_sheet P.out ?_)
      | (go_at_call 77; (refine (HGR.out _).mono ?_; rintro o w2 ⟨gp, gl, rfl, hGM, hb⟩; have hgpm := Nat.ne_of_gt (Nat.lt_of_lt_of_le ngm (own_row_ge hGM.places)); have hglm := Nat.ne_of_gt (Nat.lt_of_lt_of_le ngm (own_row_ge hGM.list)); replace P := row_next hb P.out; have hG := grown_row hb (some mt); clear hb; obtain ⟨f, f2, hGR⟩ := hGM.rows; clear hGM)))
    go_step3
    obtain ⟨hT2, g1, g2⟩ := HGd.out s hT
    have HR0 := fun w hG ht => HI.out s hT gp gl f f2 w hG ht
    rw [run_filter s L (s, 0)] at HR0
    have hz := run_zero (s := s) (T := s) (l := L)
    have hU := (untilS_step s L 0 s (by omega)).symm
    generalize L.foldl (cellRun s) (s, 0) = TN at *
    obtain ⟨T', k⟩ := TN
    change Gd s T' at hT2
    change (0 : Int) ≤ k at g1
    change k ≤ (0 : Int) + 4 * (L.length : Int) at g2
    change k = 0 → T' = s at hz
    change (if k = 0 then (s, ((0 : Nat) : Int), 0) else if 0 = 500 then (Sh.zero, 0, 7) else untilS s L (501 - (0 + 1)) (0 + 1) T') = untilS s L 501 0 s at hU
    have HR := Go.Lib.hid HR0
    have HU := Go.Lib.hid hU
    clear HR0 hU
    replace P := Go.Lib.hid P; replace hGR := Go.Lib.hid hGR; replace hG := Go.Lib.hid hG
    by_cases hk : k = 0
    · have hd : (k == 0) = true := by simpa using hk
      have hd2 : decide (k = 0) = true := by simpa using hk
      have hs := hz hk
      go_wp2_with (first
        | go_skip
        | (go_at_call 80; (refine (HR.out _ hGR.out P.out).mono ?_; rintro o w5 ⟨rfl, hgn, hP⟩; replace hGR := Go.Lib.hid (hGR.out.kept hgn hgpm hglm); replace P := Go.Lib.hid hP; replace hG := Go.Lib.hid (grown_trans hG.out hgn); clear hgn hP)))
      simp only [Exit.jump]
      go_ret2
      exact ⟨by rw [← HU.out, if_pos hk]; rfl, fun _ => by rw [← HU.out, if_pos hk, ← hs]; exact P.out, hG.out⟩
    · have hd : (k == 0) = false := by simpa using hk
      have hd2 : decide (k = 0) = false := by simpa using hk
      clear hz
      go_wp2_with (first
        | go_skip
        | (go_at_call 80; (refine (HR.out _ hGR.out P.out).mono ?_; rintro o w5 ⟨rfl, hgn, hP⟩; replace hGR := Go.Lib.hid (hGR.out.kept hgn hgpm hglm); replace P := Go.Lib.hid hP; replace hG := Go.Lib.hid (grown_trans hG.out hgn); clear hgn hP)))
      go_step3
      exact ⟨rfl, 0 + 1, T', _, _, _, _, _, _, _, _, _, _, _, _, _, _, _, _, _, _, _, by rfl, by omega, P.out, hT2, by rw [← HU.out, if_neg hk, if_neg (by omega)], hGR.out, hgpm, hglm, hG.out⟩
  · rintro a' w' ⟨n, T, gp, gl, f, f2, u1, u6, u7, u8, u9, u10, u11, u12, u13, u14, u15, u16, u17, u18, u19, rfl, hn5, P, hT, hU, hGR, hgpm, hglm, hG⟩
    obtain ⟨hT2, g1, g2⟩ := HGd.out T hT
    have HR0 := fun w hG ht => HI.out T hT gp gl f f2 w hG ht
    rw [run_filter s L (T, 0)] at HR0
    have hz := run_zero (s := s) (T := T) (l := L)
    rw [untilS_step s L n T hn5] at hU
    generalize L.foldl (cellRun s) (T, 0) = TN at *
    obtain ⟨T', k⟩ := TN
    change Gd s T' at hT2
    change (0 : Int) ≤ k at g1
    change k ≤ (0 : Int) + 4 * (L.length : Int) at g2
    change k = 0 → T' = T at hz
    change (if k = 0 then (T, ((n : Nat) : Int), 0) else if n = 500 then (Sh.zero, 0, 7) else untilS s L (501 - (n + 1)) (n + 1) T') = untilS s L 501 0 s at hU
    have HR := Go.Lib.hid HR0
    have HU := Go.Lib.hid hU
    clear HR0 hU
    replace P := Go.Lib.hid P; replace hGR := Go.Lib.hid hGR; replace hG := Go.Lib.hid hG
    by_cases hk : k = 0
    · have hd : (k == 0) = true := by simpa using hk
      have hd2 : decide (k = 0) = true := by simpa using hk
      have hT := hz hk
      go_wp2_with (first
        | go_skip
        | (go_at_call 80; (refine (HR.out _ hGR.out P.out).mono ?_; rintro o w5 ⟨rfl, hgn, hP⟩; replace hGR := Go.Lib.hid (hGR.out.kept hgn hgpm hglm); replace P := Go.Lib.hid hP; replace hG := Go.Lib.hid (grown_trans hG.out hgn); clear hgn hP)))
      simp only [Exit.jump]
      go_ret2
      exact ⟨by rw [← HU.out, if_pos hk]; rfl, fun _ => by rw [← HU.out, if_pos hk, ← hT]; exact P.out, hG.out⟩
    · have hd : (k == 0) = false := by simpa using hk
      have hd2 : decide (k = 0) = false := by simpa using hk
      clear hz
      by_cases h5 : n = 500
      · subst h5
        go_wp2_with (first
          | go_skip
          | (go_at_call 80; (refine (HR.out _ hGR.out P.out).mono ?_; rintro o w5 ⟨rfl, hgn, hP⟩; replace hGR := Go.Lib.hid (hGR.out.kept hgn hgpm hglm); replace P := Go.Lib.hid hP; replace hG := Go.Lib.hid (grown_trans hG.out hgn); clear hgn hP)))
        have E := Go.Lib.hid (hE.next (hB0.grown hG.out hB0.size (fun q hq => by cases hq; exact hmt)))
        refine wp_region_still_lit (by kernel_rfl) (by kernel_rfl) ?_
        simp only [World.drew_eq]
        repeat (first
          | (refine wpStill_load1 rfl 76 _ rfl 5 0 rfl 1 (fun _ => errP e 7) _ _ Tryd.underlying76 rfl E.out.v7 (by omega) ?_; simp only [Act.put, List.setIfInBounds_toArray, List.set_cons_succ, List.set_cons_zero])
          | still_step)
        refine wpStill_nil ?_
        go_wp2
        simp only [Exit.jump]
        go_ret2
        exact ⟨by rw [← HU.out, if_neg hk]; first | (rw [if_pos rfl]; rfl) | (rw [if_pos trivial]; rfl), fun h => by rw [← HU.out, if_neg hk] at h; first | (rw [if_pos rfl] at h; cases h) | (rw [if_pos trivial] at h; cases h), grown_drew hG.out⟩
      · have hd5 : ((n : Int) == 500) = false := by simp; omega
        have hd6 : decide ((n : Int) = 500) = false := by simp; omega
        go_wp2_with (first
          | go_skip
          | (go_at_call 80; (refine (HR.out _ hGR.out P.out).mono ?_; rintro o w5 ⟨rfl, hgn, hP⟩; replace hGR := Go.Lib.hid (hGR.out.kept hgn hgpm hglm); replace P := Go.Lib.hid hP; replace hG := Go.Lib.hid (grown_trans hG.out hgn); clear hgn hP)))
        go_step3
        exact ⟨rfl, ⟨n + 1, T', _, _, _, _, _, _, _, _, _, _, _, _, _, _, _, _, _, _, _, by rfl, by omega, P.out, hT2, by rw [← HU.out, if_neg hk, if_neg h5], hGR.out, hgpm, hglm, hG.out⟩, (by simp [intOf]; omega)⟩
end Go.Proofs.YtgbhchmpeioaiaaDoor
