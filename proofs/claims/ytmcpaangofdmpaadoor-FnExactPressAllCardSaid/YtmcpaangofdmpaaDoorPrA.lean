import Derived.Deep.RegionHeld3
import Derived.Test.YtmcpaangofdmpaaDoorPrB
import Derived.Test.YtmcpaangofdmpaaDoorCodeOf
namespace Go.Proofs.YtmcpaangofdmpaaDoor
open Go.RowKit
set_option maxRecDepth 100000
set_option linter.unusedVariables false
set_option linter.unusedSimpArgs false
theorem prA_row (s : Sh) (m : Int) : vrow 266 (fun i => prA s m (0 + i)) = vrow 266 s.at := vrow_ext _ _ _ fun i hi => by unfold prA; rw [Nat.zero_add, if_pos hi]
theorem rw_foS : (Tryd.prog.underlying 45).map (·.isRow) = some false := by kernel_rfl
theorem FdR.mono {w : World} {ao : Option Addr} {n : Nat} {px : Nat → Int} {py : Nat → Bool} {pn : Nat → Int} {B B' : Nat} (h : FdR w ao n px py pn B) (hB : B ≤ B') : FdR w ao n px py pn B' := fun hn => by
  obtain ⟨D, N, F, h1, h2, h3, h4, h5⟩ := h hn
  exact ⟨D, N, F, h1, Nat.lt_of_lt_of_le h2 hB, h3, h4, h5⟩
set_option maxHeartbeats 2000000 in
theorem pac_ok (s : Sh) (ao : Option Addr) (n cap : Nat) (px : Nat → Int) (py : Nat → Bool) (pn : Nat → Int) (r : Sh) (m : Int) (b1 b2 : Nat) (w : World) (h1 : w.heap[b1]? = some (.cells (vrow 266 s.at) 34)) (h2 : w.heap[b2]? = some (.cells (vrow 1 fun _ => .slice ao n cap) 45)) (hF : FdR w ao n px py pn w.heap.size)
    (HR : ∀ w, FdR w ao n px py pn w.heap.size → Calls Tryd.prog 55 #[.agg s.row, .slice ao n cap] w fun e w' => e = .returned (.agg (vrow 267 (prA r m))) ∧ Below w.heap.size w w') : Calls Tryd.prog 54 #[.pointer (some ⟨b1, 0, none⟩), .pointer (some ⟨b2, 0, none⟩)] w fun e w' => e = .returned (.agg (vrow 267 (prA r m))) ∧ Below w.heap.size w w' := by
  have HM := Go.Lib.hid HR
  have zz := zero_prd
  have hB : Hid (Below w.heap.size w (w.alloc (.cells (vrow 267 (prA Sh.zero 0)) 84))) := Go.Lib.hid ((Below.refl w.heap.size w).alloc (Nat.le_refl _) _)
  have P := Go.Lib.hid (heap_past w (.cells (vrow 267 (prA Sh.zero 0)) 84) _ _ (row_lt h1) h1)
  have F := Go.Lib.hid (heap_past w (.cells (vrow 267 (prA Sh.zero 0)) 84) _ _ (row_lt h2) h2)
  have Z := Go.Lib.hid (heap_at w (.cells (vrow 267 (prA Sh.zero 0)) 84) _ rfl)
  have G := Go.Lib.hid ((hF.next hB.out).mono (show w.heap.size ≤ (w.alloc (.cells (vrow 267 (prA Sh.zero 0)) 84)).heap.size from hB.out.size))
  clear HR hF
  go_enter Tryd.func54, Tryd.ntmps54
  go_wp2_with (first
    | go_skip
    | ((with_reducible refine wlAt 3 rfl ?_); refine wpList_loadall rfl 34 (.tmp 0) rfl b1 rfl 266 s.at 34 _ Tryd.underlying34 rfl size_sheet P.out ?_)
    | ((with_reducible refine wlAt 4 rfl ?_); refine wpList_ld1 45 _ rfl (by first | exact want_n rfl | exact want_g _ _ _ rfl rfl rfl) b2 0 rfl 1 (fun _ => .slice ao n cap) _ rw_foS F.out (by omega) ?_)
    | (go_at_call 55; (refine (HM.out _ G.out).mono ?_); rintro o w1 ⟨rfl, hb⟩; replace Z := Go.Lib.hid (row_next hb Z.out); replace hB := Go.Lib.hid (below_next hB.out hb); clear hb)
    | ((with_reducible refine wlOp (.store 84 (.tmp 2) (.tmp 5)) rfl ?_); refine wpList_storeall rfl 84 (.tmp 2) (.tmp 5) rfl w.heap.size rfl 267 (prA Sh.zero 0) (prA r m) rfl 84 size_prd Z.out (fun i _ => prA_one _ _ i) ?_; replace Z := Go.Lib.hid (row_set Z.out (vrow 267 (prA r m))); replace hB := Go.Lib.hid (Below_setRow hB.out (Nat.le_refl _) (vrow 267 (prA r m)))))
  exact ret_row Tryd.results54 w.heap.size 267 (prA r m) 84 _ Tryd.underlying84 rfl size_prd rfl rfl Z.out ⟨rfl, hB.out⟩
set_option maxHeartbeats 2000000 in
theorem pac_bad (s : Sh) (ao : Option Addr) (n cap : Nat) (px : Nat → Int) (py : Nat → Bool) (pn : Nat → Int) (ax : Int) (d : Bool) (p : Int) (b1 b2 : Nat) (w : World) (h1 : w.heap[b1]? = some (.cells (vrow 266 s.at) 34)) (h2 : w.heap[b2]? = some (.cells (vrow 1 fun _ => .slice ao n cap) 45)) (hF : FdR w ao n px py pn w.heap.size)
    (HR : ∀ w, FdR w ao n px py pn w.heap.size → Calls Tryd.prog 55 #[.agg s.row, .slice ao n cap] w fun e w' => e = .panicked [{ v := .iface 179 (.agg #[.int .i8 ax, .bool d, .int .i8 p]), recovered := false }] ∧ Below w.heap.size w w') : Calls Tryd.prog 54 #[.pointer (some ⟨b1, 0, none⟩), .pointer (some ⟨b2, 0, none⟩)] w fun e w' => e = .panicked [{ v := .iface 179 (.agg #[.int .i8 ax, .bool d, .int .i8 p]), recovered := false }] ∧ Below w.heap.size w w' := by
  have HM := Go.Lib.hid HR
  have zz := zero_prd
  have hB : Hid (Below w.heap.size w (w.alloc (.cells (vrow 267 (prA Sh.zero 0)) 84))) := Go.Lib.hid ((Below.refl w.heap.size w).alloc (Nat.le_refl _) _)
  have P := Go.Lib.hid (heap_past w (.cells (vrow 267 (prA Sh.zero 0)) 84) _ _ (row_lt h1) h1)
  have F := Go.Lib.hid (heap_past w (.cells (vrow 267 (prA Sh.zero 0)) 84) _ _ (row_lt h2) h2)
  have Z := Go.Lib.hid (heap_at w (.cells (vrow 267 (prA Sh.zero 0)) 84) _ rfl)
  have G := Go.Lib.hid ((hF.next hB.out).mono (show w.heap.size ≤ (w.alloc (.cells (vrow 267 (prA Sh.zero 0)) 84)).heap.size from hB.out.size))
  clear HR hF
  go_enter Tryd.func54, Tryd.ntmps54
  go_wp2_with (first
    | go_skip
    | ((with_reducible refine wlAt 3 rfl ?_); refine wpList_loadall rfl 34 (.tmp 0) rfl b1 rfl 266 s.at 34 _ Tryd.underlying34 rfl size_sheet P.out ?_)
    | ((with_reducible refine wlAt 4 rfl ?_); refine wpList_ld1 45 _ rfl (by first | exact want_n rfl | exact want_g _ _ _ rfl rfl rfl) b2 0 rfl 1 (fun _ => .slice ao n cap) _ rw_foS F.out (by omega) ?_)
    | (go_at_call 55; (refine (HM.out _ G.out).mono ?_); rintro o w1 ⟨rfl, hb⟩; replace Z := Go.Lib.hid (row_next hb Z.out); replace hB := Go.Lib.hid (below_next hB.out hb); clear hb))
  exact ⟨rfl, rfl, hB.out⟩
set_option maxHeartbeats 2000000 in
theorem ckF_bad (s : Sh) (ao : Option Addr) (n cap : Nat) (e : ErrE) (w : World) (hE : Errs e w) (hf : s.fit) (ho : okI s = false) : Calls Tryd.prog 53 #[.agg s.row, .slice ao n cap] w fun o w' => o = .returned (errP e 1) ∧ Below w.heap.size w w' := by
  have HC := Go.Lib.hid fun w hE => checkSheet_bad s ho e w hE
  have hB : Hid (Below w.heap.size w (w.alloc (.cells (vrow 266 s.at) 34))) := ((Below.refl w.heap.size w).alloc (by simp <;> omega) _)
  have P : Hid ((w.alloc (.cells (vrow 266 s.at) 34)).heap[(w.heap.size)]? = some (.cells (vrow 266 s.at) 34)) := heap_at _ _ _ (by simp)
  have E : Hid (Errs e (w.alloc (.cells (vrow 266 s.at) 34))) := hE.alloc _
  go_enter Tryd.func53, Tryd.ntmps53
  go_wp2_with (first
    | go_skip
    | (with_reducible refine wlAt 6 rfl ?_; refine wpList_loadall rfl 34 (.tmp 2) rfl _ rfl 266 s.at 34 _ Tryd.underlying34 rfl size_sheet P.out ?_)
    | (go_at_call 62; (refine (HC.out _ E.out).mono ?_; rintro o w1 ⟨rfl, hb⟩; replace P := Go.Lib.hid (row_next hb P.out); replace hB := Go.Lib.hid (below_next hB.out hb); replace E := Go.Lib.hid (E.out.next hb); clear hb))
    | ((with_reducible refine wlOp (.load 88 (.global 0)) rfl ?_); refine wpList_ld1 88 _ rfl (by first | exact want_n rfl | exact want_g _ _ _ rfl rfl rfl) 0 0 rfl 1 (fun _ => errP e 3) _ rw_err E.out.v3 (by omega) ?_))
  go_ret
  exact ⟨rfl, hB.out⟩
set_option maxHeartbeats 2000000 in
theorem ckF_lim (s : Sh) (ao : Option Addr) (n cap : Nat) (e : ErrE) (w : World) (hE : Errs e w) (hf : s.fit) (ho : okI s = true) (hn : 30 < n) : Calls Tryd.prog 53 #[.agg s.row, .slice ao n cap] w fun o w' => o = .returned (errP e 3) ∧ Below w.heap.size w w' := by
  have HC := Go.Lib.hid fun w hE => checkSheet_ok s ho e w hE
  have h1 : decide ((30 : Int) < (n : Int)) = true := by simp; omega
  have hB : Hid (Below w.heap.size w (w.alloc (.cells (vrow 266 s.at) 34))) := ((Below.refl w.heap.size w).alloc (by simp <;> omega) _)
  have P : Hid ((w.alloc (.cells (vrow 266 s.at) 34)).heap[(w.heap.size)]? = some (.cells (vrow 266 s.at) 34)) := heap_at _ _ _ (by simp)
  have E : Hid (Errs e (w.alloc (.cells (vrow 266 s.at) 34))) := hE.alloc _
  go_enter Tryd.func53, Tryd.ntmps53
  go_wp2_with (first
    | go_skip
    | (with_reducible refine wlAt 6 rfl ?_; refine wpList_loadall rfl 34 (.tmp 2) rfl _ rfl 266 s.at 34 _ Tryd.underlying34 rfl size_sheet P.out ?_)
    | (go_at_call 62; (refine (HC.out _ E.out).mono ?_; rintro o w1 ⟨rfl, hb⟩; replace P := Go.Lib.hid (row_next hb P.out); replace hB := Go.Lib.hid (below_next hB.out hb); replace E := Go.Lib.hid (E.out.next hb); clear hb))
    | ((with_reducible refine wlOp (.load 88 (.global 0)) rfl ?_); refine wpList_ld1 88 _ rfl (by first | exact want_n rfl | exact want_g _ _ _ rfl rfl rfl) 0 0 rfl 1 (fun _ => errP e 3) _ rw_err E.out.v3 (by omega) ?_))
  go_ret
  exact ⟨rfl, hB.out⟩
set_option maxHeartbeats 2000000 in
theorem ckF_ok (s : Sh) (ao : Option Addr) (n cap : Nat) (e : ErrE) (w : World) (hE : Errs e w) (hf : s.fit) (ho : okI s = true) (hn : n ≤ 30) : Calls Tryd.prog 53 #[.agg s.row, .slice ao n cap] w fun o w' => o = .returned (.nilIface) ∧ Below w.heap.size w w' := by
  have HC := Go.Lib.hid fun w hE => checkSheet_ok s ho e w hE
  have h1 : decide ((30 : Int) < (n : Int)) = false := by simp; omega
  have hB : Hid (Below w.heap.size w (w.alloc (.cells (vrow 266 s.at) 34))) := ((Below.refl w.heap.size w).alloc (by simp <;> omega) _)
  have P : Hid ((w.alloc (.cells (vrow 266 s.at) 34)).heap[(w.heap.size)]? = some (.cells (vrow 266 s.at) 34)) := heap_at _ _ _ (by simp)
  have E : Hid (Errs e (w.alloc (.cells (vrow 266 s.at) 34))) := hE.alloc _
  go_enter Tryd.func53, Tryd.ntmps53
  go_wp2_with (first
    | go_skip
    | (with_reducible refine wlAt 6 rfl ?_; refine wpList_loadall rfl 34 (.tmp 2) rfl _ rfl 266 s.at 34 _ Tryd.underlying34 rfl size_sheet P.out ?_)
    | (go_at_call 62; (refine (HC.out _ E.out).mono ?_; rintro o w1 ⟨rfl, hb⟩; replace P := Go.Lib.hid (row_next hb P.out); replace hB := Go.Lib.hid (below_next hB.out hb); replace E := Go.Lib.hid (E.out.next hb); clear hb))
    | ((with_reducible refine wlOp (.load 88 (.global 0)) rfl ?_); refine wpList_ld1 88 _ rfl (by first | exact want_n rfl | exact want_g _ _ _ rfl rfl rfl) 0 0 rfl 1 (fun _ => errP e 3) _ rw_err E.out.v3 (by omega) ?_))
  go_ret
  exact ⟨rfl, hB.out⟩
set_option maxHeartbeats 4000000 in
theorem implPA (s : Sh) (ao : Option Addr) (n cap : Nat) (px : Nat → Int) (py : Nat → Bool) (pn : Nat → Int) (r : Sh) (m c : Int) (ev : Value) (e : ErrE) (w : World) (hE : Errs e w) (hF : FdR w ao n px py pn w.heap.size)
    (HC0 : ∀ W, Errs e W → Calls Tryd.prog 53 #[.agg s.row, .slice ao n cap] W fun o w' => o = .returned ev ∧ Below W.heap.size W w')
    (HU0 : ∀ W, Errs e W → W.heap[w.heap.size]? = some (.cells (vrow 266 s.at) 34) → W.heap[w.heap.size + 1]? = some (.cells (vrow 1 fun _ => .slice ao n cap) 45) → FdR W ao n px py pn W.heap.size → Calls Tryd.prog 52 #[ev, .func (.func 54) #[] #[.pointer (some ⟨w.heap.size, 0, none⟩), .pointer (some ⟨w.heap.size + 1, 0, none⟩)]] W fun o w' => o = .returned (.tuple #[.agg (vrow 267 (prA r m)), .int .i64 c]) ∧ Below W.heap.size W w') :
    Calls Tryd.prog 20 #[.agg s.row, .slice ao n cap] w fun o w' => o = .returned (.tuple #[.agg (vrow 266 r.at), .int .i64 m, .int .i64 c]) ∧ Below w.heap.size w w' := by
  have HC := Go.Lib.hid HC0
  have HU := Go.Lib.hid HU0
  clear HC0 HU0
  have zz := zero_sheet
  have zp := zero_prd
  have hmf : ∀ (fn : Fn) (first cap : Array Value) (w : World), (Instr.makeFunc fn first cap).run Tryd.prog w = .ok (.func fn first cap) w := fun _ _ _ _ => rfl
  have P : Hid ((((w.alloc (.cells (vrow 266 s.at) 34)).alloc (.cells (vrow 1 fun _ => .slice ao n cap) 45)).alloc (.cells (vrow 266 Sh.zero.at) 34)).heap[w.heap.size]? = some (.cells (vrow 266 s.at) 34)) := (heap_past _ _ _ _ (by simp <;> omega) (heap_past _ _ _ _ (by simp <;> omega) (heap_at _ _ _ (by simp))))
  have F : Hid ((((w.alloc (.cells (vrow 266 s.at) 34)).alloc (.cells (vrow 1 fun _ => .slice ao n cap) 45)).alloc (.cells (vrow 266 Sh.zero.at) 34)).heap[w.heap.size + 1]? = some (.cells (vrow 1 fun _ => .slice ao n cap) 45)) := (heap_past _ _ _ _ (by simp <;> omega) (heap_at _ _ _ (by simp)))
  have Z : Hid ((((w.alloc (.cells (vrow 266 s.at) 34)).alloc (.cells (vrow 1 fun _ => .slice ao n cap) 45)).alloc (.cells (vrow 266 Sh.zero.at) 34)).heap[w.heap.size + 2]? = some (.cells (vrow 266 Sh.zero.at) 34)) := (heap_at _ _ _ (by simp))
  have hB : Hid (Below w.heap.size w (((w.alloc (.cells (vrow 266 s.at) 34)).alloc (.cells (vrow 1 fun _ => .slice ao n cap) 45)).alloc (.cells (vrow 266 Sh.zero.at) 34))) := Go.Lib.hid ((((Below.refl w.heap.size w).alloc (by simp <;> omega) _).alloc (by simp <;> omega) _).alloc (by simp <;> omega) _)
  have E : Hid (Errs e (((w.alloc (.cells (vrow 266 s.at) 34)).alloc (.cells (vrow 1 fun _ => .slice ao n cap) 45)).alloc (.cells (vrow 266 Sh.zero.at) 34))) := Go.Lib.hid (((hE.alloc _).alloc _).alloc _)
  have G := Go.Lib.hid ((hF.next hB.out).mono hB.out.size)
  have hz0 := row_lt Z.out
  clear hF
  go_enter Tryd.func20, Tryd.ntmps20
  go_wp2_with (first
    | go_skip
    | ((with_reducible refine wlAt 10 rfl ?_); refine wpList_loadall rfl 34 (.tmp 2) rfl w.heap.size rfl 266 s.at 34 _ Tryd.underlying34 rfl size_sheet P.out ?_)
    | ((with_reducible refine wlAt 11 rfl ?_); refine wpList_ld1 45 _ rfl (by first | exact want_n rfl | exact want_g _ _ _ rfl rfl rfl) (w.heap.size + 1) 0 rfl 1 (fun _ => .slice ao n cap) _ rw_foS F.out (by omega) ?_)
    | (go_at_call 53; (refine (HC.out _ E.out).mono ?_); rintro o w1 ⟨rfl, hb⟩; replace P := Go.Lib.hid (row_next hb P.out); replace F := Go.Lib.hid (row_next hb F.out); replace Z := Go.Lib.hid (row_next hb Z.out); replace E := Go.Lib.hid (E.out.next hb); replace G := Go.Lib.hid ((G.out.next hb).mono hb.size); replace hz0 := Nat.lt_of_lt_of_le hz0 hb.size; replace hB := Go.Lib.hid (below_next hB.out hb); clear hb)
    | (go_at_call 52; (refine (HU.out _ E.out P.out F.out G.out).mono ?_); rintro o w2 ⟨rfl, hb⟩; replace P := Go.Lib.hid (row_next hb P.out); replace F := Go.Lib.hid (row_next hb F.out); replace Z := Go.Lib.hid (row_next hb Z.out); replace E := Go.Lib.hid (E.out.next hb); replace G := Go.Lib.hid ((G.out.next hb).mono hb.size); replace hz0 := Nat.lt_of_lt_of_le hz0 hb.size; replace hB := Go.Lib.hid (below_next hB.out hb); clear hb)
    | ((with_reducible refine wlOp (.store 84 (.tmp 7) (.tmp 15)) rfl ?_); refine wpList_storeall rfl 84 (.tmp 7) (.tmp 15) rfl _ rfl 267 (prA Sh.zero 0) (prA r m) rfl 84 size_prd (heap_at _ _ _ rfl) (fun i _ => prA_one _ _ i) ?_; rw [setRow_at _ _ _ _ _ rfl]; have V := Go.Lib.hid (heap_at w2 (.cells (vrow 267 (prA r m)) 84) _ rfl); replace Z := Go.Lib.hid (heap_past w2 (.cells (vrow 267 (prA r m)) 84) _ _ (row_lt Z.out) Z.out); replace hB := Go.Lib.hid (hB.out.alloc hB.out.size (.cells (vrow 267 (prA r m)) 84)); replace hz0 := (show w.heap.size + 2 < w2.heap.size from by have := hB.out.size; first | exact hz0 | omega); obtain ⟨pb, hpb⟩ : ∃ z, w2.heap.size = z := ⟨_, rfl⟩; rw [hpb] at V hz0 ⊢; generalize World.alloc w2 _ = W3 at V Z hB ⊢; clear hpb))
  refine Code.wp_mono (Q := fun e a' W' => e = .normal ∧ a'.tmps.getD 4 undef = .pointer (some ⟨w.heap.size + 2, 0, none⟩) ∧ a'.tmps.getD 5 undef = .int .i64 m ∧ a'.tmps.getD 6 undef = .int .i64 c ∧ a'.defers = [] ∧ Below w.heap.size w W' ∧ W'.heap[w.heap.size + 2]? = some (.cells (vrow 266 r.at) 34)) ?_ ?_
  rotate_left
  · refine wp_region_held_drew (S := fun X => X.heap[pb]? = some (.cells (vrow 267 (prA r m)) 84) ∧ Below w.heap.size w X) (by kernel_rfl) ⟨drwP V.out, hB.out.drew⟩ (fun hH => ?_)
    have V4 := drwP Z.out
    clear hB P F Z V
    generalize World.drew _ = W at hH V4 ⊢
    refine wpAnyH_take (i := 0) (v := (.pointer (some ⟨pb, 0, none⟩))) rfl (by kernel_rfl) (by kernel_rfl) (by kernel_rfl) (fun _ _ _ h => by cases h.1) (.inl ⟨by kernel_rfl, fun w hw => by go_simp⟩) hH ?_
    (try simp only [List.getElem_toArray, List.getElem_cons_succ, List.getElem_cons_zero, Act.put, List.setIfInBounds_toArray, List.set_cons_succ, List.set_cons_zero])
    refine wpAnyH_take (i := 1) (v := (.agg (vrow 266 r.at))) rfl (by kernel_rfl) (by kernel_rfl) (by kernel_rfl) (fun _ _ _ h => by cases h.1) (yields_m (by kernel_rfl) 34 _ rfl pb 0 rfl 267 266 (prA r m) (vrow 266 r.at) (by omega) 84 _ Tryd.underlying34 rfl size_sheet (prA_row r m) (fun _ h => h.1)) hH ?_
    (try simp only [List.getElem_toArray, List.getElem_cons_succ, List.getElem_cons_zero, Act.put, List.setIfInBounds_toArray, List.set_cons_succ, List.set_cons_zero])
    refine wpAnyH_take (i := 2) (v := (.pointer (some ⟨pb, 266, none⟩))) rfl (by kernel_rfl) (by kernel_rfl) (by kernel_rfl) (fun _ _ _ h => by cases h.1) (.inl ⟨by kernel_rfl, fun w hw => by go_simp⟩) hH ?_
    (try simp only [List.getElem_toArray, List.getElem_cons_succ, List.getElem_cons_zero, Act.put, List.setIfInBounds_toArray, List.set_cons_succ, List.set_cons_zero])
    refine wpAnyH_take (i := 3) (v := (.int .i64 m)) rfl (by kernel_rfl) (by kernel_rfl) (by kernel_rfl) (fun _ _ _ h => by cases h.1) (yields_one (by kernel_rfl) 2 _ rfl pb 266 rfl 267 (prA r m) 84 _ Tryd.underlying2 rfl (by omega) (fun _ h => h.1)) hH ?_
    (try simp only [List.getElem_toArray, List.getElem_cons_succ, List.getElem_cons_zero, Act.put, List.setIfInBounds_toArray, List.set_cons_succ, List.set_cons_zero])
    refine wpAnyH_take (i := 4) (v := (.int .i64 c)) rfl (by kernel_rfl) (by kernel_rfl) (by kernel_rfl) (fun _ _ _ h => by cases h.1) (.inl ⟨by kernel_rfl, fun w hw => by go_simp⟩) hH ?_
    (try simp only [List.getElem_toArray, List.getElem_cons_succ, List.getElem_cons_zero, Act.put, List.setIfInBounds_toArray, List.set_cons_succ, List.set_cons_zero])
    refine wpAnyH_ready (rs := [5]) (by kernel_rfl) (by simp) (AllReadyH.cons rfl (fun K hK => ?_) AllReadyH.nil)
    rw [if_pos (by rfl)]
    unfold Oper.wp
    rw [run_storemid 34 (.tmp 4) (.tmp 18) rfl (w.heap.size + 2) 0 rfl 266 266 Sh.zero.at r.at rfl 34 size_sheet V4 (by omega) (fun i _ => Sh.one _ i), vrow_over_all, Oper.upon_skip]
    replace V4 := row_set V4 (vrow 266 r.at)
    have hH2 : (W.setRow (w.heap.size + 2) (vrow 266 r.at)).heap[pb]? = some (.cells (vrow 267 (prA r m)) 84) ∧ Below w.heap.size w (W.setRow (w.heap.size + 2) (vrow 266 r.at)) := ⟨row_set' (g := w.heap.size + 2) (by omega) hH.1 _, Below_setRow hH.2 (show w.heap.size ≤ w.heap.size + 2 by omega) _⟩
    refine hK.out _ _ hH2 (fun hH => ?_)
    clear hK K hH2
    (try simp only [List.getElem_toArray, List.getElem_cons_succ, List.getElem_cons_zero, Act.put, List.setIfInBounds_toArray, List.set_cons_succ, List.set_cons_zero])
    refine wpAnyH_take (i := 6) (v := (.int .i64 m)) rfl (by kernel_rfl) (by kernel_rfl) (by kernel_rfl) (fun _ _ _ h => by cases h.1) (.inl ⟨by kernel_rfl, fun w hw => by go_simp⟩) hH ?_
    (try simp only [List.getElem_toArray, List.getElem_cons_succ, List.getElem_cons_zero, Act.put, List.setIfInBounds_toArray, List.set_cons_succ, List.set_cons_zero])
    refine wpAnyH_take (i := 7) (v := (.int .i64 c)) rfl (by kernel_rfl) (by kernel_rfl) (by kernel_rfl) (fun _ _ _ h => by cases h.1) (.inl ⟨by kernel_rfl, fun w hw => by go_simp⟩) hH ?_
    (try simp only [List.getElem_toArray, List.getElem_cons_succ, List.getElem_cons_zero, Act.put, List.setIfInBounds_toArray, List.set_cons_succ, List.set_cons_zero])
    refine wpAnyH_done (by kernel_rfl) ?_ _
    exact ⟨rfl, rfl, rfl, rfl, rfl, hH.2, V4⟩
  rintro e1 a1 W1 ⟨rfl, h4, h5, h6, hdf, hB1, V4⟩
  go_wp2
  exact ret_row3 Tryd.results20 (w.heap.size + 2) 266 r.at 34 _ Tryd.underlying34 rfl size_sheet _ _ h4 h5 h6 hdf V4 ⟨rfl, hB1⟩
theorem one_row (ax : Int) (d : Bool) (p : Int) (k : Nat) (hk : k < 1) : vrow 3 (fun j => foAt ax d p (k * 3 + j)) = vrow 3 (foAt ax d p) := by
  obtain rfl : k = 0 := by omega
  exact vrow_ext _ _ _ fun i _ => by rw [Nat.zero_mul, Nat.zero_add]
theorem run_bsl (ax : Int) (d : Bool) (p : Int) (w : World) : (Instr.buildSlice 45 1 #[(0, .agg (vrow 3 (foAt ax d p)))]).run Tryd.prog w = .ok (.slice (some ⟨w.heap.size, 0, none⟩) 1 1) (w.alloc (.cells (vrow 3 (foAt ax d p)) 38)) := by kernel_rfl
set_option maxHeartbeats 4000000 in
theorem implPO (s : Sh) (ax : Int) (d : Bool) (p : Int) (r : Sh) (m c : Int) (e : ErrE) (w : World) (hE : Errs e w)
    (HP0 : ∀ W ao, Errs e W → FdR W ao 1 (fun _ => ax) (fun _ => d) (fun _ => p) W.heap.size → Calls Tryd.prog 20 #[.agg s.row, .slice ao 1 1] W fun o w' => o = .returned (.tuple #[.agg (vrow 266 r.at), .int .i64 m, .int .i64 c]) ∧ Below W.heap.size W w') :
    Calls Tryd.prog 15 #[.agg s.row, .agg (vrow 3 (foAt ax d p))] w fun o w' => o = .returned (.tuple #[.agg r.row, .int .i64 m, .int .i64 c]) ∧ Below w.heap.size w w' := by
  have HP := Go.Lib.hid HP0
  clear HP0
  have zz := zero_sheet
  have hbs := run_bsl ax d p
  have P : Hid ((((w.alloc (.cells (vrow 266 s.at) 34)).alloc (.cells (vrow 3 (foAt ax d p)) 38)).alloc (.cells (vrow 266 Sh.zero.at) 34)).heap[w.heap.size]? = some (.cells (vrow 266 s.at) 34)) := (heap_past _ _ _ _ (by simp <;> omega) (heap_past _ _ _ _ (by simp <;> omega) (heap_at _ _ _ (by simp))))
  have F : Hid ((((w.alloc (.cells (vrow 266 s.at) 34)).alloc (.cells (vrow 3 (foAt ax d p)) 38)).alloc (.cells (vrow 266 Sh.zero.at) 34)).heap[w.heap.size + 1]? = some (.cells (vrow 3 (foAt ax d p)) 38)) := (heap_past _ _ _ _ (by simp <;> omega) (heap_at _ _ _ (by simp)))
  have Z : Hid ((((w.alloc (.cells (vrow 266 s.at) 34)).alloc (.cells (vrow 3 (foAt ax d p)) 38)).alloc (.cells (vrow 266 Sh.zero.at) 34)).heap[w.heap.size + 2]? = some (.cells (vrow 266 Sh.zero.at) 34)) := (heap_at _ _ _ (by simp))
  have hB : Hid (Below w.heap.size w (((w.alloc (.cells (vrow 266 s.at) 34)).alloc (.cells (vrow 3 (foAt ax d p)) 38)).alloc (.cells (vrow 266 Sh.zero.at) 34))) := Go.Lib.hid ((((Below.refl w.heap.size w).alloc (by simp <;> omega) _).alloc (by simp <;> omega) _).alloc (by simp <;> omega) _)
  have E : Hid (Errs e (((w.alloc (.cells (vrow 266 s.at) 34)).alloc (.cells (vrow 3 (foAt ax d p)) 38)).alloc (.cells (vrow 266 Sh.zero.at) 34))) := Go.Lib.hid (((hE.alloc _).alloc _).alloc _)
  go_enter Tryd.func15, Tryd.ntmps15
  go_wp2_with (first
    | go_skip
    | ((with_reducible refine wlAt 7 rfl ?_); refine wpList_loadall rfl 34 (.tmp 2) rfl w.heap.size rfl 266 s.at 34 _ Tryd.underlying34 rfl size_sheet P.out ?_)
    | ((with_reducible refine wlAt 8 rfl ?_); refine wpList_loadall rfl 38 (.tmp 3) rfl (w.heap.size + 1) rfl 3 (foAt ax d p) 38 _ Tryd.underlying38 rfl size_fold F.out ?_; generalize World.alloc (World.alloc (World.alloc w _) _) _ = W0 at P F Z hB E ⊢)
    | (go_at_call 20; replace Z := Go.Lib.hid (heap_past W0 (.cells (vrow 3 (foAt ax d p)) 38) _ _ (row_lt Z.out) Z.out); replace hB := Go.Lib.hid (hB.out.alloc hB.out.size (.cells (vrow 3 (foAt ax d p)) 38)); replace E := Go.Lib.hid (E.out.alloc (.cells (vrow 3 (foAt ax d p)) 38)); (refine (HP.out _ _ E.out (fun _ => ⟨W0.heap.size, 3, foAt ax d p, rfl, by simp, by omega, heap_at W0 _ _ rfl, fun k hk => one_row ax d p k hk⟩)).mono ?_); rintro o w1 ⟨rfl, hb⟩; replace Z := Go.Lib.hid (row_next hb Z.out); replace hB := Go.Lib.hid (below_next hB.out hb); clear hb)
    | ((with_reducible refine wlOp (.store 34 (.tmp 4) (.tmp 11)) rfl ?_); refine wpList_storeall rfl 34 (.tmp 4) (.tmp 11) rfl (w.heap.size + 2) rfl 266 Sh.zero.at r.at rfl 34 size_sheet Z.out (fun i _ => Sh.one _ i) ?_; replace Z := Go.Lib.hid (row_set Z.out (vrow 266 r.at)); replace hB := Go.Lib.hid (Below_setRow hB.out (show w.heap.size ≤ w.heap.size + 2 by omega) (vrow 266 r.at))))
  all_goals first
    | exact ret_row3 Tryd.results15 (w.heap.size + 2) 266 r.at 34 _ Tryd.underlying34 rfl size_sheet (.int .i64 m) (.int .i64 c) rfl rfl rfl rfl Z.out ⟨rfl, hB.out⟩
    | (exfalso; rename_i h; simp [vrow_size] at h)
end Go.Proofs.YtmcpaangofdmpaaDoor
