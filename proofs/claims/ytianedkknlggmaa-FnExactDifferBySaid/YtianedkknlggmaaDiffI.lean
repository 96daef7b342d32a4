import Derived.Deep.RegionHeld3
import Derived.Test.YtianedkknlggmaaGap
import Derived.Test.YtianedkknlggmaaQT
namespace Go.Proofs.Ytianedkknlggmaa
open Go.RowKit
set_option maxRecDepth 100000
set_option linter.unusedVariables false
set_option linter.unusedSimpArgs false
section
variable {ro : Option Nat} {n : Nat} {P : Program} {ops : Array Oper} {Q : Exit → Act → World → Prop} {md : Region.Mode}
theorem rowsFW {m : Nat} {row : String} {args : Array Value} {w : World} {R : Value → World → Prop} (h : Rows P row args w R) : RowsIn (FW ro) m P row args w R :=
  fun c cs _ => let ⟨v, w', r, s⟩ := h c cs; ⟨v, w', r, stepsIn_wide.2 s⟩
theorem wpIn_of_wp {o : Oper} {a : Act} {w : World} {K : Act → World → Prop} (hnd : ∀ c, o.op ≠ .defer c) (h : o.wp P a w K Q) : o.wpIn (FW ro) n P a w K Q := by
  refine ⟨fun _ _ => trivial, ?_⟩
  show o.uponIn (FW ro) n P a K Q ((o.semAt ro a.eval).run P w)
  rw [Oper.semAt_eq ro _ _ hnd]
  unfold Oper.wp at h
  generalize (execOp a.eval o).run P w = r at *
  cases r with
  | ok x w' =>
    cases x <;> simp only [Oper.upon] at h <;> simp only [Oper.uponIn] <;>
      first
        | exact h
        | exact ⟨fun h => by simp [Fence.wide] at h, callsFW (h.mono fun e w'' he => by cases e <;> exact he)⟩
        | exact ⟨fun h => by simp [Fence.wide] at h, rowsFW h⟩
  | halt x w' => cases x <;> simp only [Oper.upon] at h <;> exact h
def noDefer (ops : Array Oper) : Bool := ops.all fun o => match o.op with | .defer _ => false | _ => true
theorem noDefer_spec (h : noDefer ops = true) (i : Nat) (o : Oper) (ho : ops[i]? = some o) (c : Call) : o.op ≠ .defer c := by
  intro hc
  simp only [noDefer, Array.all_eq_true_iff_forall_mem] at h
  have := h o (Array.mem_of_getElem? ho)
  rw [hc] at this
  cases this
theorem wpAnyIn_of_wpAny (hnd : noDefer ops = true) (hL : ¬ LetsOut Q) : ∀ (fuel : Nat) (listed : Array Bool) (a : Act) (w : World), wpAny P md ops Q fuel listed a w → wpAnyIn (FW ro) n P md ops Q fuel listed a w
  | 0, _, _, _, h => h
  | fuel + 1, listed, a, w, h => by
    refine ⟨h.1, fun i hi => ?_⟩
    have h2 := h.2 i hi
    unfold wpOp at h2
    unfold wpOpIn
    cases ho : ops[i]? with
    | none => simp only [ho] at h2 ⊢; exact wpAnyIn_of_wpAny hnd hL fuel _ _ _ h2
    | some o =>
      simp only [ho] at h2 ⊢
      split
      · rename_i hg
        rw [if_pos hg] at h2
        rcases h2 with h2 | ⟨_, h2⟩
        · exact Oper.wpIn_mono (fun a' w' h' => wpAnyIn_of_wpAny hnd hL fuel _ a' w' h') (wpIn_of_wp (noDefer_spec hnd i o ho) h2)
        · exact absurd h2 hL
      · rename_i hg
        rw [if_neg hg] at h2
        exact ⟨fun _ _ => trivial, wpAnyIn_of_wpAny hnd hL fuel _ _ _ h2⟩
/-- only a plain end -/
def Plainly (Q : Exit → Act → World → Prop) : Exit → Act → World → Prop := fun e a w => e = .normal ∧ Q .normal a w
theorem plainly_out : ¬ LetsOut (Plainly Q) := fun ⟨_, _, h, _⟩ => by cases h
end
theorem region_heldI {P : Program} {Q : Exit → Act → World → Prop} {S : World → Prop} {id r m : Nat} {ops : Array Oper} {a : Act} {w : World} (hm : P.follows .mixedOrders = true) (hnd : noDefer ops = true) (hS : S w.drew)
    (h : S w.drew → wpAnyH P .any ops (Plainly Q) S ops.size (Array.replicate ops.size false) a w.drew) : (Code.region id ops true).wpIn (Fence.wide.inRound r) m P Q a w := by
  refine wpIn_mono (wpIn_region_any hm (wpAnyIn_of_wpAny (ro := some r) hnd plainly_out _ _ _ _ (wpAny_of_held _ _ _ _ (h hS)))) ?_
  rintro e a w ⟨rfl, h⟩
  exact h
theorem yields_m {P : Program} {ops : Array Oper} {S : World → Prop} {o : Oper} {a : Act} (hw : Region.wanted o (yielded ops a.tmps) = true) (ty : TypeId) (x : Operand) (ho : o.op = .load ty x)
    (b off : Nat) (hx : a.eval x = .pointer (some ⟨b, off, none⟩)) (n m : Nat) (f : Nat → Value) (r : Array Value) (hbd : off + m ≤ n) (t : TypeId) (d : TypeDesc) (hu : P.underlying ty = some d) (hd : d.isRow = true) (hi : (P.info? ty).map (·.size) = some m)
    (hr : vrow m (fun i => f (off + i)) = r) (hS : ∀ w, S w → w.heap[b]? = some (.cells (vrow n f) t)) : YieldsIf P ops S o (.agg r) a :=
  .inl ⟨hw, fun w hw' => by
    have hg := hS w hw'
    have hrun := run_loadAt_mid (P := P) w b off ty ((List.range m).map fun i => f (off + i)) d (fun j v hj => by
      have hjm : j < m := by
        by_cases c : j < m
        · exact c
        · rw [List.getElem?_eq_none (by simp; omega)] at hj; cases hj
      rw [cell_row hg (by omega)]
      simp [hjm] at hj; rw [hj]) hu hd (by simpa using hi)
    unfold execOp
    simp only [ho, hx, Sem.run_bind, hrun, Result.andThen_ok, Sem.run_pure]
    rw [← hr]; simp [vrow]⟩
attribute [local go_sem] Oper.semAt_some
theorem run_loadO {P : Program} {o : Oper} {a : Act} {w : World} {K : Act → World → Prop} {Q : Exit → Act → World → Prop} (ty : TypeId) (x : Operand) (ho : o.op = .load ty x)
    (b off : Nat) (hx : a.eval x = .pointer (some ⟨b, off, none⟩)) (n : Nat) (f : Nat → Value) (t : TypeId) (d : TypeDesc) (hu : P.underlying ty = some d) (hd : d.isRow = false) (hb : off < n)
    (hg : w.heap[b]? = some (.cells (vrow n f) t)) : o.upon P a K Q ((execOp a.eval o).run P w) = K (a.put o.dst (f off)) w := by
  have hc := cell_row hg hb
  unfold execOp
  simp only [ho, hx, Instr.loadAt, Instr.sureAddr, Sem.run_bind, Sem.run_pure, Result.andThen_ok, loadVar, run_isAgg_row w ty d hu, hd, Bool.false_eq_true, if_false, run_load, hc]
  rfl
/-- the dyes of a cell -/
def cd (s : Sh) (x y m : Nat) : Int := s.dye (24 * y + 3 * x + m)
theorem cd_row (s : Sh) (x y k : Nat) (hk : k = 66 + (24 * y + 3 * x)) (hx : x < 8) (hy : y < 8) : vrow 3 (fun j => s.at (k + j)) = vrow 3 (d3f (cd s x y)) := (Sh.at_d3 s k (24 * y + 3 * x) hk (by omega)).trans (d3f_vrow (cd s x y))
theorem cd_bd (s : Sh) (x y : Nat) (hv : okI s = true) (hx : x < 8) (hy : y < 8) (i : Nat) (hi : i < 3) : 0 ≤ cd s x y i ∧ cd s x y i ≤ 1000 := by
  obtain ⟨_, q0, q1, q2⟩ := ok_bounds s hv x y hx hy
  unfold cd
  have : i = 0 ∨ i = 1 ∨ i = 2 := by omega
  rcases this with rfl | rfl | rfl <;> assumption
theorem gp_bd (p q : Nat → Int) (hp : ∀ i, i < 3 → 0 ≤ p i ∧ p i ≤ 1000) (hq : ∀ i, i < 3 → 0 ≤ q i ∧ q i ≤ 1000) (i : Nat) (hi : i < 3) : 0 ≤ gp p q i ∧ gp p q i ≤ 1000 := by
  have := hp i hi
  have := hq i hi
  unfold gp; split <;> omega
theorem gp_tri (a b : Sh) (x y : Nat) : dsum (gp (cd a x y) (cd b x y)) 3 = tri a b (8 * y + x) 3 := by
  have e : ∀ m, gp (cd a x y) (cd b x y) m = ad a b (3 * (8 * y + x) + m) := fun m => by
    unfold gp cd ad
    rw [show 3 * (8 * y + x) + m = 24 * y + 3 * x + m by omega]
  simp only [dsum, tri, e]
theorem dark_gap (a b : Sh) (x y : Nat) (ha : okI a = true) (hb : okI b = true) (hx : x < 8) (hy : y < 8) (w : World) : Calls Try.prog 67 #[.agg (vrow 3 (d3f (gp (cd a x y) (cd b x y))))] w fun e w' => e = .returned (.int .i64 (tri a b (8 * y + x) 3)) ∧ Below w.heap.size w w' := by
  rw [← gp_tri, ← d3f_vrow]
  exact darkness_any _ (gp_bd _ _ (cd_bd a x y ha hx hy) (cd_bd b x y hb hx hy)) w
theorem same_w (a b : Sh) (w : World) (hw : a.wide ≠ b.wide) : Calls Try.prog 66 #[.agg a.row, .agg b.row] w fun e w' => e = .returned (.bool false) ∧ Below w.heap.size w w' := by
  have t1 : (a.wide == b.wide) = false := by simpa using hw
  have t2 : decide (a.wide = b.wide) = false := by simpa using hw
  have hB : Hid (Below w.heap.size w ((w.alloc (.cells (vrow 266 a.at) 33)).alloc (.cells (vrow 266 b.at) 33))) := (((Below.refl w.heap.size w).alloc (by simp <;> omega) _).alloc (by simp <;> omega) _)
  have P : Hid (((w.alloc (.cells (vrow 266 a.at) 33)).alloc (.cells (vrow 266 b.at) 33)).heap[(w.heap.size)]? = some (.cells (vrow 266 a.at) 33)) := heap_past _ _ _ _ (by first | omega | (simp <;> omega)) (heap_at _ _ _ (by simp))
  have R : Hid (((w.alloc (.cells (vrow 266 a.at) 33)).alloc (.cells (vrow 266 b.at) 33)).heap[(w.heap.size + 1)]? = some (.cells (vrow 266 b.at) 33)) := heap_at _ _ _ (by simp)
  clear hw
  go_enter Try.func66, Try.ntmps66
  go_wp2_with (first | (refine list_at 6 rfl ?_; intro W hW; rw [hW] at hB P R; clear hW; have P' := Go.Lib.hid (cls_row' P.out); have R' := Go.Lib.hid (cls_row' R.out); (repeat (first | go_big_quiet_skip | (refine wpQuiet_load1 22 _ rfl (by first | exact want_n rfl | exact want_g _ _ _ rfl rfl rfl) (w.heap.size) _ rfl 266 a.at _ rw_i8 P'.out (by omega) ?_; (first | rw [Sh.at_0] | rw [Sh.at_1]); simp only [Act.put, List.setIfInBounds_toArray, List.set_cons_succ, List.set_cons_zero]) | (refine wpQuiet_load1 22 _ rfl (by first | exact want_n rfl | exact want_g _ _ _ rfl rfl rfl) (w.heap.size + 1) _ rfl 266 b.at _ rw_i8 R'.out (by omega) ?_; (first | rw [Sh.at_0] | rw [Sh.at_1]); simp only [Act.put, List.setIfInBounds_toArray, List.set_cons_succ, List.set_cons_zero]) | go_big_quiet_step (fail))); refine wpQuiet_nil ?_; intro Wn hb; replace P := Go.Lib.hid (row_next hb P.out); replace R := Go.Lib.hid (row_next hb R.out); replace hB := Go.Lib.hid (below_next hB.out hb); clear hb P' R'))
  go_ret
  exact ⟨rfl, hB.out⟩
theorem same_h (a b : Sh) (w : World) (hw : a.wide = b.wide) (hh : a.high ≠ b.high) : Calls Try.prog 66 #[.agg a.row, .agg b.row] w fun e w' => e = .returned (.bool false) ∧ Below w.heap.size w w' := by
  have t1 : (a.wide == b.wide) = true := by simpa using hw
  have t2 : (a.high == b.high) = false := by simpa using hh
  have t3 : decide (a.wide = b.wide) = true := by simpa using hw
  have t4 : decide (a.high = b.high) = false := by simpa using hh
  have hB : Hid (Below w.heap.size w ((w.alloc (.cells (vrow 266 a.at) 33)).alloc (.cells (vrow 266 b.at) 33))) := (((Below.refl w.heap.size w).alloc (by simp <;> omega) _).alloc (by simp <;> omega) _)
  have P : Hid (((w.alloc (.cells (vrow 266 a.at) 33)).alloc (.cells (vrow 266 b.at) 33)).heap[(w.heap.size)]? = some (.cells (vrow 266 a.at) 33)) := heap_past _ _ _ _ (by first | omega | (simp <;> omega)) (heap_at _ _ _ (by simp))
  have R : Hid (((w.alloc (.cells (vrow 266 a.at) 33)).alloc (.cells (vrow 266 b.at) 33)).heap[(w.heap.size + 1)]? = some (.cells (vrow 266 b.at) 33)) := heap_at _ _ _ (by simp)
  clear hw hh
  go_enter Try.func66, Try.ntmps66
  go_wp2_with (first | (refine list_at 6 rfl ?_; intro W hW; rw [hW] at hB P R; clear hW; have P' := Go.Lib.hid (cls_row' P.out); have R' := Go.Lib.hid (cls_row' R.out); (repeat (first | go_big_quiet_skip | (refine wpQuiet_load1 22 _ rfl (by first | exact want_n rfl | exact want_g _ _ _ rfl rfl rfl) (w.heap.size) _ rfl 266 a.at _ rw_i8 P'.out (by omega) ?_; (first | rw [Sh.at_0] | rw [Sh.at_1]); simp only [Act.put, List.setIfInBounds_toArray, List.set_cons_succ, List.set_cons_zero]) | (refine wpQuiet_load1 22 _ rfl (by first | exact want_n rfl | exact want_g _ _ _ rfl rfl rfl) (w.heap.size + 1) _ rfl 266 b.at _ rw_i8 R'.out (by omega) ?_; (first | rw [Sh.at_0] | rw [Sh.at_1]); simp only [Act.put, List.setIfInBounds_toArray, List.set_cons_succ, List.set_cons_zero]) | go_big_quiet_step (fail))); refine wpQuiet_nil ?_; intro Wn hb; replace P := Go.Lib.hid (row_next hb P.out); replace R := Go.Lib.hid (row_next hb R.out); replace hB := Go.Lib.hid (below_next hB.out hb); clear hb P' R'))
  go_ret
  exact ⟨rfl, hB.out⟩
theorem same_y (a b : Sh) (w : World) (hw : a.wide = b.wide) (hh : a.high = b.high) : Calls Try.prog 66 #[.agg a.row, .agg b.row] w fun e w' => e = .returned (.bool true) ∧ Below w.heap.size w w' := by
  have t1 : (a.wide == b.wide) = true := by simpa using hw
  have t2 : (a.high == b.high) = true := by simpa using hh
  have t3 : decide (a.wide = b.wide) = true := by simpa using hw
  have t4 : decide (a.high = b.high) = true := by simpa using hh
  have hB : Hid (Below w.heap.size w ((w.alloc (.cells (vrow 266 a.at) 33)).alloc (.cells (vrow 266 b.at) 33))) := (((Below.refl w.heap.size w).alloc (by simp <;> omega) _).alloc (by simp <;> omega) _)
  have P : Hid (((w.alloc (.cells (vrow 266 a.at) 33)).alloc (.cells (vrow 266 b.at) 33)).heap[(w.heap.size)]? = some (.cells (vrow 266 a.at) 33)) := heap_past _ _ _ _ (by first | omega | (simp <;> omega)) (heap_at _ _ _ (by simp))
  have R : Hid (((w.alloc (.cells (vrow 266 a.at) 33)).alloc (.cells (vrow 266 b.at) 33)).heap[(w.heap.size + 1)]? = some (.cells (vrow 266 b.at) 33)) := heap_at _ _ _ (by simp)
  clear hw hh
  go_enter Try.func66, Try.ntmps66
  go_wp2_with (first | (refine list_at 6 rfl ?_; intro W hW; rw [hW] at hB P R; clear hW; have P' := Go.Lib.hid (cls_row' P.out); have R' := Go.Lib.hid (cls_row' R.out); (repeat (first | go_big_quiet_skip | (refine wpQuiet_load1 22 _ rfl (by first | exact want_n rfl | exact want_g _ _ _ rfl rfl rfl) (w.heap.size) _ rfl 266 a.at _ rw_i8 P'.out (by omega) ?_; (first | rw [Sh.at_0] | rw [Sh.at_1]); simp only [Act.put, List.setIfInBounds_toArray, List.set_cons_succ, List.set_cons_zero]) | (refine wpQuiet_load1 22 _ rfl (by first | exact want_n rfl | exact want_g _ _ _ rfl rfl rfl) (w.heap.size + 1) _ rfl 266 b.at _ rw_i8 R'.out (by omega) ?_; (first | rw [Sh.at_0] | rw [Sh.at_1]); simp only [Act.put, List.setIfInBounds_toArray, List.set_cons_succ, List.set_cons_zero]) | go_big_quiet_step (fail))); refine wpQuiet_nil ?_; intro Wn hb; replace P := Go.Lib.hid (row_next hb P.out); replace R := Go.Lib.hid (row_next hb R.out); replace hB := Go.Lib.hid (below_next hB.out hb); clear hb P' R'))
  go_ret
  exact ⟨rfl, hB.out⟩
set_option maxHeartbeats 1000000 in
theorem implDiffer_na (a b : Sh) (w : World) (ha : a.fit) (hb : b.fit) (hva : okI a = false) : Calls Try.prog 24 #[.agg a.row, .agg b.row] w fun e w' => e = .returned (.tuple #[.int .i64 0, .int .i64 1]) ∧ Below w.heap.size w w' := by
  have HA0 := fun w => implV_any a w
  rw [hva] at HA0
  have HA := Go.Lib.hid HA0
  have HV := HA
  clear HA0 hva ha hb
  have hB : Hid (Below w.heap.size w ((w.alloc (.cells (vrow 266 a.at) 33)).alloc (.cells (vrow 266 b.at) 33))) := (((Below.refl w.heap.size w).alloc (by simp <;> omega) _).alloc (by simp <;> omega) _)
  have P : Hid (((w.alloc (.cells (vrow 266 a.at) 33)).alloc (.cells (vrow 266 b.at) 33)).heap[(w.heap.size)]? = some (.cells (vrow 266 a.at) 33)) := heap_past _ _ _ _ (by first | omega | (simp <;> omega)) (heap_at _ _ _ (by simp))
  have R : Hid (((w.alloc (.cells (vrow 266 a.at) 33)).alloc (.cells (vrow 266 b.at) 33)).heap[(w.heap.size + 1)]? = some (.cells (vrow 266 b.at) 33)) := heap_at _ _ _ (by simp)
  go_enter Try.func24, Try.ntmps24
  go_wp2_with (first | go_skip | ((with_reducible refine wlAt 8 rfl ?_); refine wpList_loadall rfl 33 (.tmp 2) rfl _ rfl 266 a.at 33 _ Try.underlying33 rfl size_sheet P.out ?_) | (go_at_call 17; refine (HA.out _).mono ?_; rintro e w1 ⟨rfl, hb⟩; replace P := Go.Lib.hid (row_next hb P.out); replace R := Go.Lib.hid (row_next hb R.out); replace hB := Go.Lib.hid (below_next hB.out hb); clear hb) | (refine list_at 12 rfl ?_; intro W hW; rw [hW] at hB P R; clear hW; have P' := Go.Lib.hid (cls_row' P.out); have R' := Go.Lib.hid (cls_row' R.out); (repeat (first | go_big_quiet_skip | (refine wpQuiet_loadmid 33 _ rfl (by first | exact want_n rfl | exact want_g _ _ _ rfl rfl rfl) (w.heap.size) _ rfl 266 266 a.at _ rw_sheet size_sheet P'.out (by omega) ?_; rw [sh_row]; simp only [Act.put, List.setIfInBounds_toArray, List.set_cons_succ, List.set_cons_zero]) | (refine wpQuiet_loadmid 33 _ rfl (by first | exact want_n rfl | exact want_g _ _ _ rfl rfl rfl) (w.heap.size + 1) _ rfl 266 266 b.at _ rw_sheet size_sheet R'.out (by omega) ?_; rw [sh_row]; simp only [Act.put, List.setIfInBounds_toArray, List.set_cons_succ, List.set_cons_zero]) | go_big_quiet_step ((go_at_call 17; exact cls_call _ (fun w hw => HV.out w))))); refine wpQuiet_nil ?_; intro Wn hb; replace P := Go.Lib.hid (row_next hb P.out); replace R := Go.Lib.hid (row_next hb R.out); replace hB := Go.Lib.hid (below_next hB.out hb); clear hb P' R'))
  go_ret2
  exact ⟨rfl, hB.out⟩
set_option maxHeartbeats 1000000 in
theorem implDiffer_nb (a b : Sh) (w : World) (ha : a.fit) (hb : b.fit) (hva : okI a = true) (hvb : okI b = false) : Calls Try.prog 24 #[.agg a.row, .agg b.row] w fun e w' => e = .returned (.tuple #[.int .i64 0, .int .i64 1]) ∧ Below w.heap.size w w' := by
  have HA0 := fun w => implV_any a w
  rw [hva] at HA0
  have HA := Go.Lib.hid HA0
  have HV0 := fun w => implV_any b w
  rw [hvb] at HV0
  have HV := Go.Lib.hid HV0
  clear HA0 HV0 hva hvb ha hb
  have hB : Hid (Below w.heap.size w ((w.alloc (.cells (vrow 266 a.at) 33)).alloc (.cells (vrow 266 b.at) 33))) := (((Below.refl w.heap.size w).alloc (by simp <;> omega) _).alloc (by simp <;> omega) _)
  have P : Hid (((w.alloc (.cells (vrow 266 a.at) 33)).alloc (.cells (vrow 266 b.at) 33)).heap[(w.heap.size)]? = some (.cells (vrow 266 a.at) 33)) := heap_past _ _ _ _ (by first | omega | (simp <;> omega)) (heap_at _ _ _ (by simp))
  have R : Hid (((w.alloc (.cells (vrow 266 a.at) 33)).alloc (.cells (vrow 266 b.at) 33)).heap[(w.heap.size + 1)]? = some (.cells (vrow 266 b.at) 33)) := heap_at _ _ _ (by simp)
  go_enter Try.func24, Try.ntmps24
  go_wp2_with (first | go_skip | ((with_reducible refine wlAt 8 rfl ?_); refine wpList_loadall rfl 33 (.tmp 2) rfl _ rfl 266 a.at 33 _ Try.underlying33 rfl size_sheet P.out ?_) | (go_at_call 17; refine (HA.out _).mono ?_; rintro e w1 ⟨rfl, hb⟩; replace P := Go.Lib.hid (row_next hb P.out); replace R := Go.Lib.hid (row_next hb R.out); replace hB := Go.Lib.hid (below_next hB.out hb); clear hb) | (refine list_at 12 rfl ?_; intro W hW; rw [hW] at hB P R; clear hW; have P' := Go.Lib.hid (cls_row' P.out); have R' := Go.Lib.hid (cls_row' R.out); (repeat (first | go_big_quiet_skip | (refine wpQuiet_loadmid 33 _ rfl (by first | exact want_n rfl | exact want_g _ _ _ rfl rfl rfl) (w.heap.size) _ rfl 266 266 a.at _ rw_sheet size_sheet P'.out (by omega) ?_; rw [sh_row]; simp only [Act.put, List.setIfInBounds_toArray, List.set_cons_succ, List.set_cons_zero]) | (refine wpQuiet_loadmid 33 _ rfl (by first | exact want_n rfl | exact want_g _ _ _ rfl rfl rfl) (w.heap.size + 1) _ rfl 266 266 b.at _ rw_sheet size_sheet R'.out (by omega) ?_; rw [sh_row]; simp only [Act.put, List.setIfInBounds_toArray, List.set_cons_succ, List.set_cons_zero]) | go_big_quiet_step ((go_at_call 17; exact cls_call _ (fun w hw => HV.out w))))); refine wpQuiet_nil ?_; intro Wn hb; replace P := Go.Lib.hid (row_next hb P.out); replace R := Go.Lib.hid (row_next hb R.out); replace hB := Go.Lib.hid (below_next hB.out hb); clear hb P' R'))
  go_ret2
  exact ⟨rfl, hB.out⟩
set_option maxHeartbeats 1000000 in
theorem implDiffer_ns (a b : Sh) (w : World) (hva : okI a = true) (hvb : okI b = true) (hS : ∀ w, Calls Try.prog 66 #[.agg a.row, .agg b.row] w fun e w' => e = .returned (.bool false) ∧ Below w.heap.size w w') : Calls Try.prog 24 #[.agg a.row, .agg b.row] w fun e w' => e = .returned (.tuple #[.int .i64 0, .int .i64 4]) ∧ Below w.heap.size w w' := by
  have HA0 := fun w => implV_any a w
  rw [hva] at HA0
  have HA := Go.Lib.hid HA0
  have HV0 := fun w => implV_any b w
  rw [hvb] at HV0
  have HV := Go.Lib.hid HV0
  have HSS := Go.Lib.hid hS
  clear HA0 HV0 hva hvb hS
  have hB : Hid (Below w.heap.size w ((w.alloc (.cells (vrow 266 a.at) 33)).alloc (.cells (vrow 266 b.at) 33))) := (((Below.refl w.heap.size w).alloc (by simp <;> omega) _).alloc (by simp <;> omega) _)
  have P : Hid (((w.alloc (.cells (vrow 266 a.at) 33)).alloc (.cells (vrow 266 b.at) 33)).heap[(w.heap.size)]? = some (.cells (vrow 266 a.at) 33)) := heap_past _ _ _ _ (by first | omega | (simp <;> omega)) (heap_at _ _ _ (by simp))
  have R : Hid (((w.alloc (.cells (vrow 266 a.at) 33)).alloc (.cells (vrow 266 b.at) 33)).heap[(w.heap.size + 1)]? = some (.cells (vrow 266 b.at) 33)) := heap_at _ _ _ (by simp)
  go_enter Try.func24, Try.ntmps24
  go_wp2_with (first | go_skip | ((with_reducible refine wlAt 8 rfl ?_); refine wpList_loadall rfl 33 (.tmp 2) rfl _ rfl 266 a.at 33 _ Try.underlying33 rfl size_sheet P.out ?_) | (go_at_call 17; refine (HA.out _).mono ?_; rintro e w1 ⟨rfl, hb⟩; replace P := Go.Lib.hid (row_next hb P.out); replace R := Go.Lib.hid (row_next hb R.out); replace hB := Go.Lib.hid (below_next hB.out hb); clear hb) | (refine list_at 12 rfl ?_; intro W hW; rw [hW] at hB P R; clear hW; have P' := Go.Lib.hid (cls_row' P.out); have R' := Go.Lib.hid (cls_row' R.out); (repeat (first | go_big_quiet_skip | (refine wpQuiet_loadmid 33 _ rfl (by first | exact want_n rfl | exact want_g _ _ _ rfl rfl rfl) (w.heap.size) _ rfl 266 266 a.at _ rw_sheet size_sheet P'.out (by omega) ?_; rw [sh_row]; simp only [Act.put, List.setIfInBounds_toArray, List.set_cons_succ, List.set_cons_zero]) | (refine wpQuiet_loadmid 33 _ rfl (by first | exact want_n rfl | exact want_g _ _ _ rfl rfl rfl) (w.heap.size + 1) _ rfl 266 266 b.at _ rw_sheet size_sheet R'.out (by omega) ?_; rw [sh_row]; simp only [Act.put, List.setIfInBounds_toArray, List.set_cons_succ, List.set_cons_zero]) | go_big_quiet_step ((go_at_call 17; exact cls_call _ (fun w hw => HV.out w))))); refine wpQuiet_nil ?_; intro Wn hb; replace P := Go.Lib.hid (row_next hb P.out); replace R := Go.Lib.hid (row_next hb R.out); replace hB := Go.Lib.hid (below_next hB.out hb); clear hb P' R') | (refine list_at 16 rfl ?_; intro W hW; rw [hW] at hB P R; clear hW; have P' := Go.Lib.hid (cls_row' P.out); have R' := Go.Lib.hid (cls_row' R.out); (repeat (first | go_big_quiet_skip | (refine wpQuiet_loadmid 33 _ rfl (by first | exact want_n rfl | exact want_g _ _ _ rfl rfl rfl) (w.heap.size) _ rfl 266 266 a.at _ rw_sheet size_sheet P'.out (by omega) ?_; rw [sh_row]; simp only [Act.put, List.setIfInBounds_toArray, List.set_cons_succ, List.set_cons_zero]) | (refine wpQuiet_loadmid 33 _ rfl (by first | exact want_n rfl | exact want_g _ _ _ rfl rfl rfl) (w.heap.size + 1) _ rfl 266 266 b.at _ rw_sheet size_sheet R'.out (by omega) ?_; rw [sh_row]; simp only [Act.put, List.setIfInBounds_toArray, List.set_cons_succ, List.set_cons_zero]) | go_big_quiet_step ((go_at_call 66; exact cls_call _ (fun w hw => HSS.out w))))); refine wpQuiet_nil ?_; intro Wn hb; replace P := Go.Lib.hid (row_next hb P.out); replace R := Go.Lib.hid (row_next hb R.out); replace hB := Go.Lib.hid (below_next hB.out hb); clear hb P' R'))
  go_ret2
  exact ⟨rfl, hB.out⟩
theorem implDiffer_nw (a b : Sh) (w : World) (ha : a.fit) (hb : b.fit) (hva : okI a = true) (hvb : okI b = true) (hw : a.wide ≠ b.wide) : Calls Try.prog 24 #[.agg a.row, .agg b.row] w fun e w' => e = .returned (.tuple #[.int .i64 0, .int .i64 4]) ∧ Below w.heap.size w w' := implDiffer_ns a b w hva hvb fun w => same_w a b w hw
theorem implDiffer_nh (a b : Sh) (w : World) (ha : a.fit) (hb : b.fit) (hva : okI a = true) (hvb : okI b = true) (hw : a.wide = b.wide) (hh : a.high ≠ b.high) : Calls Try.prog 24 #[.agg a.row, .agg b.row] w fun e w' => e = .returned (.tuple #[.int .i64 0, .int .i64 4]) ∧ Below w.heap.size w w' := implDiffer_ns a b w hva hvb fun w => same_h a b w hw hh
theorem rw_i64 : (Try.prog.underlying 2).map (·.isRow) = some false := by kernel_rfl
set_option maxRecDepth 100000 in
set_option maxHeartbeats 3000000 in
theorem implDiffer_ok (a b : Sh) (w : World) (ha : a.fit) (hb : b.fit) (hva : okI a = true) (hvb : okI b = true) (hw : a.wide = b.wide) (hh : a.high = b.high) : Calls Try.prog 24 #[.agg a.row, .agg b.row] w fun e w' => e = .returned (.tuple #[.int .i64 (wsum (dif a b) 64), .int .i64 0]) ∧ Below w.heap.size w w' := by
  have hq := dif_eq a b hva hvb hw hh
  have hdya := fun x y hx hy => (ok_bounds a hva x y hx hy).2
  have hdyb := fun x y hx hy => (ok_bounds b hvb x y hx hy).2
  have hbb := hva
  simp only [okI, Bool.and_eq_true, decide_eq_true_eq] at hbb
  obtain ⟨⟨hb1, hb2⟩, ⟨hb3, hb4⟩, _⟩ := hbb
  obtain ⟨aw, haw⟩ : ∃ n : Nat, a.wide = n := ⟨a.wide.toNat, by omega⟩
  obtain ⟨ah, hah⟩ : ∃ n : Nat, a.high = n := ⟨a.high.toNat, by omega⟩
  rw [show a.wide.toNat = aw by omega, show a.high.toNat = ah by omega] at hq
  have ha8 : aw ≤ 8 := by omega
  have hc8 : ah ≤ 8 := by omega
  have hbw : b.wide = aw := by omega
  have hbh : b.high = ah := by omega
  replace hq := Go.Lib.hid hq; replace hdya := Go.Lib.hid hdya; replace hdyb := Go.Lib.hid hdyb
  clear hb1 hb2 hb3 hb4
  have HA0 := fun w => implV_any a w
  rw [hva] at HA0
  have HV0 := fun w => implV_any b w
  rw [hvb] at HV0
  have HA := Go.Lib.hid HA0; have HV := Go.Lib.hid HV0
  have HSS := Go.Lib.hid fun w => same_y a b w hw hh
  have HOA := Go.Lib.hid hva; have HOB := Go.Lib.hid hvb
  clear HA0 HV0 hva hvb hw hh
  have hB : Hid (Below w.heap.size w ((w.alloc (.cells (vrow 266 a.at) 33)).alloc (.cells (vrow 266 b.at) 33))) := (((Below.refl w.heap.size w).alloc (by simp <;> omega) _).alloc (by simp <;> omega) _)
  have P : Hid (((w.alloc (.cells (vrow 266 a.at) 33)).alloc (.cells (vrow 266 b.at) 33)).heap[(w.heap.size)]? = some (.cells (vrow 266 a.at) 33)) := heap_past _ _ _ _ (by first | omega | (simp <;> omega)) (heap_at _ _ _ (by simp))
  have R : Hid (((w.alloc (.cells (vrow 266 a.at) 33)).alloc (.cells (vrow 266 b.at) 33)).heap[(w.heap.size + 1)]? = some (.cells (vrow 266 b.at) 33)) := heap_at _ _ _ (by simp)
  refine (callsIn_wide (n := 9)).1 ?_
  refine callsIn_of_wp_marks Try.func24 rfl trivial ?_ rfl
  simp only [Try.ntmps24, List.size_toArray, List.length_cons, List.length_nil, Nat.reduceAdd, Nat.reduceSub, Array.replicate_succ, Array.replicate_zero, List.push_toArray, List.append_toArray, List.nil_append, List.cons_append]
  refine wpIn_wide.2 ?_
  go_wp2_with (first
    | (refine wpList_load1 rfl 22 _ rfl w.heap.size _ rfl 266 a.at _ _ Try.underlying22 rfl (heap_past _ _ _ _ (row_lt P.out) P.out) (by omega) ?_; (first | rw [Sh.at_0] | rw [Sh.at_1]); simp only [Act.put, List.setIfInBounds_toArray, List.set_cons_succ, List.set_cons_zero])
    | (go_at_call 59; refine (cells_any _ _ _).mono ?_; rintro e w2 ⟨rfl, rfl⟩)
    | go_skip | ((with_reducible refine wlAt 8 rfl ?_); refine wpList_loadall rfl 33 (.tmp 2) rfl _ rfl 266 a.at 33 _ Try.underlying33 rfl size_sheet P.out ?_) | (go_at_call 17; refine (HA.out _).mono ?_; rintro e w1 ⟨rfl, hb⟩; replace P := Go.Lib.hid (row_next hb P.out); replace R := Go.Lib.hid (row_next hb R.out); replace hB := Go.Lib.hid (below_next hB.out hb); clear hb) | (refine list_at 12 rfl ?_; intro W hW; rw [hW] at hB P R; clear hW; have P' := Go.Lib.hid (cls_row' P.out); have R' := Go.Lib.hid (cls_row' R.out); (repeat (first | go_big_quiet_skip | (refine wpQuiet_loadmid 33 _ rfl (by first | exact want_n rfl | exact want_g _ _ _ rfl rfl rfl) (w.heap.size) _ rfl 266 266 a.at _ rw_sheet size_sheet P'.out (by omega) ?_; rw [sh_row]; simp only [Act.put, List.setIfInBounds_toArray, List.set_cons_succ, List.set_cons_zero]) | (refine wpQuiet_loadmid 33 _ rfl (by first | exact want_n rfl | exact want_g _ _ _ rfl rfl rfl) (w.heap.size + 1) _ rfl 266 266 b.at _ rw_sheet size_sheet R'.out (by omega) ?_; rw [sh_row]; simp only [Act.put, List.setIfInBounds_toArray, List.set_cons_succ, List.set_cons_zero]) | go_big_quiet_step ((go_at_call 17; exact cls_call _ (fun w hw => HV.out w))))); refine wpQuiet_nil ?_; intro Wn hb; replace P := Go.Lib.hid (row_next hb P.out); replace R := Go.Lib.hid (row_next hb R.out); replace hB := Go.Lib.hid (below_next hB.out hb); clear hb P' R')
    | (refine list_at 16 rfl ?_; intro W hW; rw [hW] at hB P R; clear hW; have P' := Go.Lib.hid (cls_row' P.out); have R' := Go.Lib.hid (cls_row' R.out); (repeat (first | go_big_quiet_skip | (refine wpQuiet_loadmid 33 _ rfl (by first | exact want_n rfl | exact want_g _ _ _ rfl rfl rfl) (w.heap.size) _ rfl 266 266 a.at _ rw_sheet size_sheet P'.out (by omega) ?_; rw [sh_row]; simp only [Act.put, List.setIfInBounds_toArray, List.set_cons_succ, List.set_cons_zero]) | (refine wpQuiet_loadmid 33 _ rfl (by first | exact want_n rfl | exact want_g _ _ _ rfl rfl rfl) (w.heap.size + 1) _ rfl 266 266 b.at _ rw_sheet size_sheet R'.out (by omega) ?_; rw [sh_row]; simp only [Act.put, List.setIfInBounds_toArray, List.set_cons_succ, List.set_cons_zero]) | go_big_quiet_step ((go_at_call 66; exact cls_call _ (fun w hw => HSS.out w))))); refine wpQuiet_nil ?_; intro Wn hb; replace P := Go.Lib.hid (row_next hb P.out); replace R := Go.Lib.hid (row_next hb R.out); replace hB := Go.Lib.hid (below_next hB.out hb); clear hb P' R'))
  have P1 := heap_past Wn (.cells #[.int .i64 0] 2) _ _ (row_lt P.out) P.out
  have R1 := heap_past Wn (.cells #[.int .i64 0] 2) _ _ (row_lt R.out) R.out
  have hB0 := hB.out.alloc hB.out.size (.cells #[.int .i64 0] 2)
  have D1 : (Wn.alloc (.cells #[.int .i64 0] 2)).heap[Wn.heap.size]? = some (.cells (vrow 1 fun _ => .int .i64 (psumL (dif a b) [])) 2) := heap_at _ _ _ rfl
  have hw1 : w.heap.size + 1 < Wn.heap.size := row_lt R.out
  clear P R hB
  generalize hWn : Wn.alloc _ = W1 at P1 R1 hB0 D1 ⊢
  have hws : W1.heap.size = Wn.heap.size + 1 := by rw [← hWn]; simp
  clear hWn
  generalize Wn.heap.size = dd at hw1 D1 hws ⊢
  have c1 := heap_at (W1.alloc (.cells #[.int .i8 aw] 22)) (.cells #[.int .i8 ah] 22) (W1.heap.size + 1) (by simp)
  have c2 := heap_past (W1.alloc (.cells #[.int .i8 aw] 22)) (.cells #[.int .i8 ah] 22) _ W1.heap.size (by simp) (heap_at W1 (.cells #[.int .i8 aw] 22) _ rfl)
  have hB1 : Below W1.heap.size W1 ((W1.alloc (.cells #[.int .i8 aw] 22)).alloc (.cells #[.int .i8 ah] 22)) := ((Below.refl _ _).alloc (Nat.le_refl _) _).alloc (by simp) _
  obtain ⟨W0, hW0⟩ : ∃ W0, (W1.alloc (.cells #[.int .i8 aw] 22)).alloc (.cells #[.int .i8 ah] 22) = W0 := ⟨_, rfl⟩
  rw [hW0] at c1 c2 hB1 ⊢
  clear hW0
  rw [hws] at c1 c2
  have P := row_next hB1 P1; have R := row_next hB1 R1; have D := row_next hB1 D1; have hB := below_next hB0 hB1
  clear P1 R1 D1 hB0 HA HV
  have hs0 := row_lt c1
  refine wp_cells (d := 7) (dd + 1 + 1) (dd + 1) aw ah (by omega) (by omega) rfl c1 c2
    (fun pre W => W.heap[w.heap.size]? = some (.cells (vrow 266 a.at) 33) ∧ W.heap[w.heap.size + 1]? = some (.cells (vrow 266 b.at) 33) ∧ W.heap[dd]? = some (.cells (vrow 1 fun _ => .int .i64 (psumL (dif a b) pre)) 2) ∧ Below w.heap.size w W)
    (fun _ _ _ => False)
    (OwnFrom.and (own_row (by omega)) (OwnFrom.and (own_row (by omega)) (OwnFrom.and (own_rowD (o := fun pre => .cells (vrow 1 fun _ => .int .i64 (psumL (dif a b) pre)) 2) (by omega)) (ownFrom_below (Nat.le_refl _) (by omega)))))
    (fun c => own_pure _)
    ⟨P, R, D, hB⟩ ?assign ?body ?done ?stop
  case assign =>
    intro l x W K hK
    simp only [List.setIfInBounds_toArray, List.set_cons_succ, List.set_cons_zero] at hK ⊢
    have zs := zero_spot
    gi_wp2_with (refine wpListIn_storeall rfl 93 (.tmp 7) (.tmp 25) rfl _ rfl 2 (spAt 0 0) (spAt x.1.1 x.1.2) rfl 93 size_spot (heap_at _ _ _ rfl) (fun i _ => spAt_one _ _ i) ?_; rw [setRow_at _ _ _ _ _ rfl])
    exact hK
  case body =>
    rintro l pre ⟨⟨x, y⟩, hx, hy⟩ Wb W Bx hK hBx S hsz ⟨P, R, D, hB⟩ hlen
    simp only [List.setIfInBounds_toArray, List.set_cons_succ, List.set_cons_zero] at S ⊢
    clear c1 c2 hB1
    have hpl : pre.length ≤ 64 := by
      have : aw * ah ≤ 8 * 8 := Nat.mul_le_mul (by omega) (by omega)
      omega
    replace hx : x < 8 := hx
    replace hy : y < 8 := hy
    obtain ⟨p, hp⟩ : ∃ p : Sp8, p = ⟨(x, y), hx, hy⟩ := ⟨_, rfl⟩
    have hap : psumL (dif a b) (pre ++ [p]) = psumL (dif a b) pre + tri a b (8 * y + x) 3 := (psumL_app (dif a b) pre p).trans (by rw [hp]; rfl)
    rw [← hp]
    clear hp
    have hk1 : KeepsFrom W0.heap.size Wb W := keeps_below hK
    have hk2 : Kp2 (dd + 1 + 1) (dd + 1) Wb W := Kp2.of_lt hK (by omega) (by omega)
    clear hK
    obtain ⟨g5, g6⟩ := pdif_bd a b ha hb pre
    obtain ⟨g7, g8⟩ := tri_bd a b ha hb (8 * y + x) (by omega) 3 (by omega)
    have HV2 := Go.Lib.hid (show wrap64 (psumL (dif a b) pre + tri a b (8 * y + x) 3) = psumL (dif a b) (pre ++ [p]) from by rw [hap]; exact IntWalk.wrap64_in _ (by omega))
    have HGA := Go.Lib.hid fun w => gaps_any (cd a x y) (cd b x y) (cd_bd a x y HOA.out hx hy) (cd_bd b x y HOB.out hx hy) w
    have HDA := Go.Lib.hid fun w => dark_gap a b x y HOA.out HOB.out hx hy w
    clear g5 g6 g7 g8 hap
    have hxI : (x : Int) < 8 := by omega
    have hyI : (y : Int) < 8 := by omega
    replace hk1 := Go.Lib.hid hk1; replace hk2 := Go.Lib.hid hk2; replace P := Go.Lib.hid P; replace R := Go.Lib.hid R; replace S := Go.Lib.hid S; replace D := Go.Lib.hid D; replace hB := Go.Lib.hid hB
    have hsz' : dd + 1 + 1 < W.heap.size := by have := hk1.out.size; omega
    gi_wp2
    refine regionI_qt 20 (by kernel_rfl) (by kernel_rfl) (by kernel_rfl) ?_
    rintro _ rfl
    simp only [List.take_succ_cons, List.take_zero, List.drop_succ_cons, List.drop_zero]
    have P' := Go.Lib.hid (cls_row' P.out); have R' := Go.Lib.hid (cls_row' R.out); have S' := Go.Lib.hid (cls_row' S.out); have D' := Go.Lib.hid (cls_row' D.out)
    refine wpQuiet_load1 2 _ rfl (want_n rfl) (dd) (0) rfl 1 (fun _ => .int .i64 (psumL (dif a b) pre)) _ rw_i64 D'.out (by omega) ?_
    simp only [Act.put, List.setIfInBounds_toArray, List.set_cons_succ, List.set_cons_zero]
    go_big_quiet_step (fail)
    refine wpQuiet_load1 22 _ rfl (want_n rfl) (Bx) (1) rfl 2 (spAt x y) _ rw_i8 S'.out (by omega) ?_
    rw [spAt_1]
    simp only [Act.put, List.setIfInBounds_toArray, List.set_cons_succ, List.set_cons_zero]
    go_big_quiet_step (fail)
    refine wpQuiet_load1 22 _ rfl (want_n rfl) (Bx) (0) rfl 2 (spAt x y) _ rw_i8 S'.out (by omega) ?_
    rw [spAt_0]
    simp only [Act.put, List.setIfInBounds_toArray, List.set_cons_succ, List.set_cons_zero]
    go_big_quiet_step (fail)
    go_big_quiet_step (fail)
    go_big_quiet_step (fail)
    refine wpQuiet_loadmid 26 _ rfl (want_n rfl) (w.heap.size) (66 + y * 24 + x * 3) rfl 266 3 a.at _ rw_d3 size_d3 P'.out (by omega) ?_
    rw [cd_row a x y _ (by omega) hx hy]
    simp only [Act.put, List.setIfInBounds_toArray, List.set_cons_succ, List.set_cons_zero]
    go_big_quiet_step (fail)
    refine wpQuiet_load1 22 _ rfl (want_n rfl) (Bx) (1) rfl 2 (spAt x y) _ rw_i8 S'.out (by omega) ?_
    rw [spAt_1]
    simp only [Act.put, List.setIfInBounds_toArray, List.set_cons_succ, List.set_cons_zero]
    go_big_quiet_step (fail)
    refine wpQuiet_load1 22 _ rfl (want_n rfl) (Bx) (0) rfl 2 (spAt x y) _ rw_i8 S'.out (by omega) ?_
    rw [spAt_0]
    simp only [Act.put, List.setIfInBounds_toArray, List.set_cons_succ, List.set_cons_zero]
    go_big_quiet_step (fail)
    go_big_quiet_step (fail)
    go_big_quiet_step (fail)
    refine wpQuiet_loadmid 26 _ rfl (want_n rfl) (w.heap.size + 1) (66 + y * 24 + x * 3) rfl 266 3 b.at _ rw_d3 size_d3 R'.out (by omega) ?_
    rw [cd_row b x y _ (by omega) hx hy]
    simp only [Act.put, List.setIfInBounds_toArray, List.set_cons_succ, List.set_cons_zero]
    go_big_quiet_step ((go_at_call 68; exact cls_call _ (fun w hw => HGA.out w)))
    go_big_quiet_step ((go_at_call 67; exact cls_call _ (fun w hw => HDA.out w)))
    go_big_quiet_step (fail)
    refine wpQuiet_nil ?_
    intro Wn hb
    replace P := Go.Lib.hid (row_next hb P.out); replace R := Go.Lib.hid (row_next hb R.out); replace D := Go.Lib.hid (row_next hb D.out); replace hB := Go.Lib.hid (below_next hB.out hb)
    replace hk2 := Go.Lib.hid (Kp2.t hk2.out (Kp2.of_lt hb (by omega) (by omega))); replace hk1 := Go.Lib.hid (hk1.out.trans (keeps_below hb))
    clear hb P' R' S' D' S
    refine wpList_store1 rfl 2 (.tmp 6) (.tmp 45) rfl dd 0 rfl 1 (fun _ => .int .i64 (psumL (dif a b) pre)) (.int .i64 (psumL (dif a b) (pre ++ [p]))) (by rw [← HV2.out]; rfl) _ size_i64 D.out (by omega) rfl ?_
    rw [vrow_over_all]
    have b2 := hB.out; have D2 := D.out
    refine ⟨rfl, ?_⟩
    gi_wp2
    exact ⟨hk1.out.trans (keeps_setRow D2 _), hk2.out.setRow (show dd + 1 + 1 ≠ dd by omega) (show dd + 1 ≠ dd by omega) _, row_set' (g := dd) (show w.heap.size ≠ dd by omega) P.out _, row_set' (g := dd) (show w.heap.size + 1 ≠ dd by omega) R.out _, row_set D2 _, Below_setRow b2 (show w.heap.size ≤ dd by omega) _⟩
  case done =>
    rintro DD W hDD ⟨P, R, D, hB⟩ hd
    replace hd := Go.Lib.hid hd; replace hB := Go.Lib.hid hB; replace D := Go.Lib.hid D
    go_wp2_with (first
      | (refine wpList_load1 rfl 2 _ rfl dd _ rfl 1 (fun _ => .int .i64 (psumL (dif a b) (cellsL aw ah))) _ _ Try.underlying2 rfl D.out (by omega) ?_; simp only [Act.put, List.setIfInBounds_toArray, List.set_cons_succ, List.set_cons_zero]))
    have hlt := row_lt hd.out
    refine leaveM rfl hd.out (results_tmp2 Try.results24 _ _ _) ?_
    exact ⟨by rw [← hq.out]; rfl, below_put _ hB.out (by omega) hlt⟩
  case stop =>
    rintro D c pre W hD h hd
    exact h.elim
end Go.Proofs.Ytianedkknlggmaa
