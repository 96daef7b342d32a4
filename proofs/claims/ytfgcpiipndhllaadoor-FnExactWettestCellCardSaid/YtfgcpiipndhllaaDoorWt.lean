import Derived.Deep.RegionHeld3
import Derived.Test.YtfgcpiipndhllaaDoorFirstW
import Derived.Test.YtfgcpiipndhllaaDoorEqSheet
import Derived.Test.YtfgcpiipndhllaaDoorG1
namespace Go.Proofs.YtfgcpiipndhllaaDoor
open Go.RowKit
set_option maxRecDepth 100000
set_option linter.unusedVariables false
set_option linter.unusedSimpArgs false
set_option linter.unusedSimpArgs false
theorem built_zspot : Tryd.prog.built 33 [] = some (vrow 2 (spAt 0 0)) := by kernel_rfl
/-- the model's answer -/
def specRes (b : (Nat × Nat) × Int) : Value := if b.2 = 0 then .tuple #[.agg (vrow 2 (spAt 0 0)), .int .i64 0, .int .i64 6] else .tuple #[.agg (vrow 2 (spAt b.1.1 b.1.2)), .int .i64 b.2, .int .i64 0]
theorem specRes_no {b : (Nat × Nat) × Int} (h : b.2 = 0) : specRes b = .tuple #[.agg (vrow 2 (spAt 0 0)), .int .i64 0, .int .i64 6] := if_pos h
theorem specRes_yes {b : (Nat × Nat) × Int} (h : ¬ b.2 = 0) : specRes b = .tuple #[.agg (vrow 2 (spAt b.1.1 b.1.2)), .int .i64 b.2, .int .i64 0] := if_neg h
theorem row_of_spot (f : Nat → Value) (o : Nat) (p : Sp8) (h : f o = .int .i8 p.1.1 ∧ f (o + 1) = .int .i8 p.1.2) : vrow 2 (fun i => f (o + i)) = vrow 2 (spAt p.1.1 p.1.2) := vrow_ext _ _ _ fun i hi => by
  have hi2 : i = 0 ∨ i = 1 := by omega
  rcases hi2 with rfl | rfl
  · rw [Nat.add_zero, h.1]; rfl
  · rw [h.2]; rfl
theorem drew_row {w : World} {b : Nat} {x : Obj} (h : w.heap[b]? = some x) : w.drew.heap[b]? = some x := h
def wstep (f : Nat → Nat → Int) (b p : Sp8) : Sp8 := if f b.1.1 b.1.2 < f p.1.1 p.1.2 then p else b
theorem wb_best (f : Nat → Nat → Int) (hf : ∀ x y, x < 8 → y < 8 → 0 ≤ f x y) (p0 : Sp8) (l : List Sp8) : ((best f (p0 :: l)).2 = 0 ∧ f (l.foldl (wstep f) p0).1.1 (l.foldl (wstep f) p0).1.2 = 0) ∨ ((best f (p0 :: l)).1 = (l.foldl (wstep f) p0).1 ∧ (best f (p0 :: l)).2 = f (l.foldl (wstep f) p0).1.1 (l.foldl (wstep f) p0).1.2 ∧ 0 < (best f (p0 :: l)).2) := by
  have key : ∀ (l : List Sp8) (b : (Nat × Nat) × Int) (v : Sp8), ((b.2 = 0 ∧ f v.1.1 v.1.2 = 0) ∨ (b.1 = v.1 ∧ b.2 = f v.1.1 v.1.2 ∧ 0 < b.2)) →
      (((l.foldl (bestStep f) b).2 = 0 ∧ f (l.foldl (wstep f) v).1.1 (l.foldl (wstep f) v).1.2 = 0) ∨ ((l.foldl (bestStep f) b).1 = (l.foldl (wstep f) v).1 ∧ (l.foldl (bestStep f) b).2 = f (l.foldl (wstep f) v).1.1 (l.foldl (wstep f) v).1.2 ∧ 0 < (l.foldl (bestStep f) b).2)) := by
    intro l
    induction l with
    | nil => intro b v h; exact h
    | cons p l ih =>
      intro b v h
      refine ih _ _ ?_
      have hp := hf p.1.1 p.1.2 p.2.1 p.2.2
      unfold bestStep wstep
      rcases h with ⟨h1, h2⟩ | ⟨h1, h2, h3⟩
      · rw [h1, h2]
        by_cases c : 0 < f p.1.1 p.1.2
        · rw [if_pos c, if_pos c]; exact .inr ⟨rfl, rfl, c⟩
        · rw [if_neg c, if_neg c]; exact .inl ⟨h1, h2⟩
      · rw [← h2]
        by_cases c : b.2 < f p.1.1 p.1.2
        · rw [if_pos c, if_pos c]; exact .inr ⟨rfl, rfl, by simp only; omega⟩
        · rw [if_neg c, if_neg c]; exact .inr ⟨h1, h2, h3⟩
  refine key l _ _ ?_
  have hp := hf p0.1.1 p0.1.2 p0.2.1 p0.2.2
  unfold bestStep
  by_cases c : 0 < f p0.1.1 p0.1.2
  · rw [if_pos c]; exact .inr ⟨rfl, rfl, c⟩
  · rw [if_neg c]; exact .inl ⟨rfl, by omega⟩
set_option maxHeartbeats 400000 in
theorem specWt_bad (s : Sh) (w : World) (hf : s.fit) (hv : okI s = false) : Calls Tryd.prog 14 #[.agg s.row] w fun e w' => e = .returned (.tuple #[.agg (vrow 2 (spAt 0 0)), .int .i64 0, .int .i64 1]) ∧ Below w.heap.size w w' := by
  have HO0 := fun b w hs => ok_any s b w hs hf
  rw [← ok_eq s hf, hv] at HO0
  have HO := Go.Lib.hid HO0
  clear HO0 hv
  have zs := zero_spot
  have hB : Hid (Below w.heap.size w ((w.alloc (.cells (vrow 266 s.at) 36)).alloc (.cells (vrow 2 (spAt 0 0)) 33))) := (((Below.refl w.heap.size w).alloc (by simp <;> omega) _).alloc (by simp <;> omega) _)
  have P : Hid (((w.alloc (.cells (vrow 266 s.at) 36)).alloc (.cells (vrow 2 (spAt 0 0)) 33)).heap[(w.heap.size)]? = some (.cells (vrow 266 s.at) 36)) := heap_past _ _ _ _ (by first | omega | (simp <;> omega)) (heap_at _ _ _ (by simp))
  have Z : Hid (((w.alloc (.cells (vrow 266 s.at) 36)).alloc (.cells (vrow 2 (spAt 0 0)) 33)).heap[(w.heap.size + 1)]? = some (.cells (vrow 2 (spAt 0 0)) 33)) := heap_at _ _ _ (by simp)
  go_enter Tryd.func14, Tryd.ntmps14
  go_wp2_with (first
    | (refine wpList_built rfl 33 [] rfl [] (by rfl) _ built_zspot ?_)
    | (refine wpList_storeall rfl 33 (.tmp 2) (.tmp 10) rfl (w.heap.size + 1) rfl 2 (spAt 0 0) (spAt 0 0) rfl 33 size_spot Z.out (fun i _ => spAt_one _ _ i) ?_; replace Z := Go.Lib.hid (row_set Z.out (vrow 2 (spAt 0 0))); replace hB := Go.Lib.hid (Below_setRow hB.out (show w.heap.size ≤ w.heap.size + 1 by omega) (vrow 2 (spAt 0 0))))
    | (go_at_call 55; (refine (HO.out _ _ P.out).mono ?_; rintro e w1 ⟨rfl, hb⟩; replace P := Go.Lib.hid (row_next hb P.out); replace Z := Go.Lib.hid (row_next hb Z.out); replace hB := Go.Lib.hid (below_next hB.out hb); clear hb )))
  exact ret_row3 Tryd.results14 (w.heap.size + 1) 2 (spAt 0 0) 33 _ Tryd.underlying33 rfl size_spot (.int .i64 0) (.int .i64 1) rfl rfl rfl rfl Z.out ⟨rfl, hB.out⟩
set_option maxHeartbeats 1000000 in
theorem specWt_ok (s : Sh) (w : World) (hf : s.fit) (hv : okI s = true) (a c : Nat) (ea : s.wide = a) (ec : s.high = c) (ha : 1 ≤ a ∧ a ≤ 8) (hc : 1 ≤ c ∧ c ≤ 8) : Calls Tryd.prog 14 #[.agg s.row] w fun e w' => e = .returned (specRes (best (wetF s) (cellsL a c))) ∧ Below w.heap.size w w' := by
  have HO0 := fun b w hs => ok_any s b w hs hf
  rw [← ok_eq s hf, hv] at HO0
  have HO := Go.Lib.hid HO0
  have HSp := Go.Lib.hid fun b w hs => spots_any s b a c w hs ea ec ha.2 hc.2
  have HW := Go.Lib.hid fun b x y w hs hx hy => l02Wet_any s b x y w hs hf hx hy
  have HWV : Hid (∀ (b x y : Nat) (w : World), w.heap[b]? = some (.cells (vrow 266 s.at) 36) → x < 8 → y < 8 → Calls Tryd.prog 57 #[.pointer (some ⟨b, 0, none⟩), .agg (vrow 2 (spAt x y))] w fun e w' => e = .returned (.int .i64 (wetF s x y)) ∧ Below w.heap.size w w') := Go.Lib.hid fun b x y w hs hx hy => HW.out b x y w hs hx hy
  have HWQ : Hid (∀ (b x y : Nat) (w : World), w.heap[b]? = some (.cells (vrow 266 s.at) 36) → x < 8 → y < 8 → Calls Tryd.prog 57 #[.pointer (some ⟨b, 0, none⟩), .agg #[.int .i8 x, .int .i8 y]] w fun e w' => e = .returned (.int .i64 (wetF s x y)) ∧ Below w.heap.size w w') := Go.Lib.hid fun b x y w hs hx hy => HW.out b x y w hs hx hy
  have BN := Go.Lib.hid (fun x y (hx : x < 8) (hy : y < 8) => (show 0 ≤ wetF s x y ∧ wetF s x y ≤ 200 from (ok_bounds s hv x y hx hy).1))
  clear HO0 hv
  have zs := zero_spot
  have hn : (cellsL a c).length = a * c := cellsL_length a c
  have hac : 1 ≤ a * c ∧ a * c ≤ 64 := ⟨Nat.mul_le_mul ha.1 hc.1, Nat.mul_le_mul ha.2 hc.2⟩
  rw [← hn] at hac
  generalize cellsL a c = L at *
  clear hn ea ec ha hc
  obtain ⟨p0, l0, rfl⟩ : ∃ p l, L = p :: l := by
    cases L with
    | nil => simp at hac
    | cons p l => exact ⟨p, l, rfl⟩
  have hwb := wb_best (wetF s) (fun x y hx hy => (BN.out x y hx hy).1) p0 l0
  have HWB := Go.Lib.hid hwb
  clear hwb
  obtain ⟨L, hL⟩ : ∃ L, p0 :: l0 = L := ⟨_, rfl⟩
  have hL0 : ∀ h : 0 < L.length, L[0]'h = p0 := by subst hL; intro _; rfl
  have hfold : ∀ k, 1 ≤ k → (L.take k).foldl (wstep (wetF s)) p0 = (l0.take (k - 1)).foldl (wstep (wetF s)) p0 := by
    intro k hk
    subst hL
    obtain ⟨j, rfl⟩ : ∃ j, k = j + 1 := ⟨k - 1, by omega⟩
    simp only [List.take_succ_cons, List.foldl_cons, Nat.add_sub_cancel]
    rw [show wstep (wetF s) p0 p0 = p0 by unfold wstep; rw [if_neg (by omega)]]
  have hlen : l0.length + 1 = L.length := by subst hL; rfl
  rw [hL] at hac HSp HWB ⊢
  have HL := Go.Lib.hid hL
  clear hL
  have hB : Hid (Below w.heap.size w ((w.alloc (.cells (vrow 266 s.at) 36)).alloc (.cells (vrow 2 (spAt 0 0)) 33))) := (((Below.refl w.heap.size w).alloc (by simp <;> omega) _).alloc (by simp <;> omega) _)
  have P : Hid (((w.alloc (.cells (vrow 266 s.at) 36)).alloc (.cells (vrow 2 (spAt 0 0)) 33)).heap[(w.heap.size)]? = some (.cells (vrow 266 s.at) 36)) := heap_past _ _ _ _ (by first | omega | (simp <;> omega)) (heap_at _ _ _ (by simp))
  have Z : Hid (((w.alloc (.cells (vrow 266 s.at) 36)).alloc (.cells (vrow 2 (spAt 0 0)) 33)).heap[(w.heap.size + 1)]? = some (.cells (vrow 2 (spAt 0 0)) 33)) := heap_at _ _ _ (by simp)
  go_enter Tryd.func14, Tryd.ntmps14
  go_wp2_with (first
    | (go_at_call 56; (refine (HSp.out _ _ P.out).mono ?_; rintro e w2 ⟨v, rfl, hO, hb⟩; replace P := Go.Lib.hid (row_next hb P.out); replace Z := Go.Lib.hid (row_next hb Z.out); have n0 := row_lt P.out; have n1 := row_lt Z.out; have hsz := hb.size; replace hB := Go.Lib.hid (below_next hB.out hb); obtain ⟨g, cap, f, rfl, hg, hcap, hO2, hf2⟩ := hO.row (by omega); have O := Go.Lib.hid hO2; have HF := Go.Lib.hid hf2; have hR0 : vrow 2 (fun i => f (0 + i)) = vrow 2 (spAt p0.1.1 p0.1.2) := row_of_spot f 0 p0 (by simpa [hL0 (by omega)] using hf2 0 (by omega)); have HR0 := Go.Lib.hid hR0; clear hO hO2 hf2 hb hR0))
    | (refine wpList_loadmid rfl 33 (.tmp 13) rfl g 0 rfl (cap * 2) 2 f 33 _ Tryd.underlying33 rfl size_spot O.out (by omega) ?_; rw [HR0.out])
    | (refine wpList_storeall rfl 33 (.tmp 6) (.tmp 14) rfl _ rfl 2 (spAt 0 0) (spAt p0.1.1 p0.1.2) rfl 33 size_spot (heap_at _ _ _ rfl) (fun i _ => spAt_one _ _ i) ?_; rw [setRow_at _ _ _ _ _ rfl]; have ng := row_lt O.out; have V := Go.Lib.hid (heap_at w2 (.cells (vrow 2 (spAt p0.1.1 p0.1.2)) 33) _ rfl); replace P := Go.Lib.hid (heap_past _ (.cells (vrow 2 (spAt p0.1.1 p0.1.2)) 33) _ _ n0 P.out); replace Z := Go.Lib.hid (heap_past _ (.cells (vrow 2 (spAt p0.1.1 p0.1.2)) 33) _ _ n1 Z.out); replace O := Go.Lib.hid (heap_past _ (.cells (vrow 2 (spAt p0.1.1 p0.1.2)) 33) _ _ ng O.out); have hsz2 := hB.out.size; replace hB := Go.Lib.hid (hB.out.alloc hsz2 (.cells (vrow 2 (spAt p0.1.1 p0.1.2)) 33)); generalize hbv : w2.heap.size = bv at V n0 n1 ng hsz hsz2 ⊢; generalize w2.alloc _ = W2 at P Z V O hB ⊢; clear hbv)
    | (go_at_call 55; (refine (HO.out _ _ P.out).mono ?_; rintro e w1 ⟨rfl, hb⟩; replace P := Go.Lib.hid (row_next hb P.out); replace Z := Go.Lib.hid (row_next hb Z.out); replace hB := Go.Lib.hid (below_next hB.out hb); clear hb )))
  go_loopw [7] (fun iv wr => ∃ k : Nat, 1 ≤ k ∧ k ≤ L.length ∧ iv = .int .i64 k ∧ wr.heap[bv]? = some (.cells (vrow 2 (spAt ((L.take k).foldl (wstep (wetF s)) p0).1.1 ((L.take k).foldl (wstep (wetF s)) p0).1.2)) 33) ∧ wr.heap[g]? = some (.cells (vrow (cap * 2) f) 33) ∧ wr.heap[w.heap.size]? = some (.cells (vrow 266 s.at) 36) ∧ wr.heap[w.heap.size + 1]? = some (.cells (vrow 2 (spAt 0 0)) 33) ∧ Below w.heap.size w wr) (fun iv _ => L.length - (intOf iv).toNat)
  case atStart =>
    refine ⟨1, by omega, by omega, rfl, ?_, O.out, P.out, Z.out, hB.out⟩
    rw [hfold 1 (by omega)]
    exact V.out
  case round =>
    clear V O P Z hB
    obtain ⟨k, hk1, hk, rfl, V, O, P, Z, hB⟩ := hrel
    have hsz3 := hB.size
    by_cases hlt : k < L.length
    · have hf2 := HF.out k hlt
      have hap : (L.take (k + 1)).foldl (wstep (wetF s)) p0 = wstep (wetF s) ((L.take k).foldl (wstep (wetF s)) p0) (L[k]'hlt) := by
        rw [List.take_succ_eq_append_getElem hlt, List.foldl_append]; rfl
      have hR : vrow 2 (fun i => f (k * 2 + i)) = vrow 2 (spAt (L[k]'hlt).1.1 (L[k]'hlt).1.2) := row_of_spot f (k * 2) _ hf2
      obtain ⟨⟨⟨x, y⟩, hx, hy⟩, hp⟩ : ∃ p, L[k]'hlt = p := ⟨_, rfl⟩
      rw [hp] at hap hR
      clear hp hf2
      replace hx : x < 8 := hx
      replace hy : y < 8 := hy
      obtain ⟨⟨⟨p, q⟩, hp, hq⟩, hpe⟩ : ∃ v, (L.take k).foldl (wstep (wetF s)) p0 = v := ⟨_, rfl⟩
      rw [hpe] at V hap
      clear hpe
      replace hp : p < 8 := hp
      replace hq : q < 8 := hq
      have HR := Go.Lib.hid hR; have hap := Go.Lib.hid hap
      clear hR
      replace P := Go.Lib.hid P; replace O := Go.Lib.hid O; replace Z := Go.Lib.hid Z; have V : Hid (wr.heap[bv]? = some (.cells (vrow 2 (spAt p q)) 33)) := V; replace hB := Go.Lib.hid hB
      have hkI : (k : Int) < (L.length : Int) := by omega
      have hk0 : (0 : Int) ≤ (k : Int) := by omega
      have hkd : decide ((k : Int) < (L.length : Int)) = true := by simpa using hkI
      by_cases hgt : wetF s p q < wetF s x y
      · have hdec : decide (wetF s p q < wetF s x y) = true := by simpa using hgt
        go_wp2
        (refine region_at (by kernel_rfl) (by kernel_rfl) ?_; intro W hW; rw [hW] at hB P Z V O; clear hW; have P' := Go.Lib.hid (cls_row' P.out); have Z' := Go.Lib.hid (cls_row' Z.out); have V' := Go.Lib.hid (cls_row' V.out); have O' := Go.Lib.hid (cls_row' O.out); (repeat (first | go_big_quiet_skip | (refine wpQuiet_loadmid 33 _ rfl (by first | exact want_n rfl | exact want_g _ _ _ rfl rfl rfl) bv _ rfl 2 2 (spAt p q) _ rw_spot size_spot V'.out (by omega) ?_; rw [sp_row]; simp only [Act.put, List.setIfInBounds_toArray, List.set_cons_succ, List.set_cons_zero]) | (refine wpQuiet_loadmid 33 _ rfl (by first | exact want_n rfl | exact want_g _ _ _ rfl rfl rfl) g (k * 2) rfl (cap * 2) 2 f _ rw_spot size_spot O'.out (by omega) ?_; rw [HR.out]; simp only [Act.put, List.setIfInBounds_toArray, List.set_cons_succ, List.set_cons_zero]) | go_big_quiet_step ((go_at_call 57; first | with_reducible exact cls_call _ (fun w hw => HWV.out _ x y w (row_next hw P.out) hx hy) | with_reducible exact cls_call _ (fun w hw => HWQ.out _ p q w (row_next hw P.out) hp hq))))); refine wpQuiet_nil ?_; intro Wn hb; replace P := Go.Lib.hid (row_next hb P.out); replace Z := Go.Lib.hid (row_next hb Z.out); replace V := Go.Lib.hid (row_next hb V.out); replace O := Go.Lib.hid (row_next hb O.out); replace hB := Go.Lib.hid (below_next hB.out hb); clear hb P' Z' V' O')
        go_wp2_with (first
          | (refine wpList_loadmid rfl 33 (.tmp 31) rfl g (k * 2) rfl (cap * 2) 2 f 33 _ Tryd.underlying33 rfl size_spot O.out (by omega) ?_; rw [HR.out])
          | (refine wpList_storeall rfl 33 (.tmp 6) (.tmp 32) rfl bv rfl 2 (spAt p q) (spAt x y) rfl 33 size_spot V.out (fun i _ => spAt_one _ _ i) ?_))
        go_roundw
        case rel =>
          have e1 : (L.take (k + 1)).foldl (wstep (wetF s)) p0 = ⟨(x, y), hx, hy⟩ := by rw [hap.out, wstep, if_pos (by simpa using hgt)]
          exact ⟨k + 1, by omega, by omega, by go_num, by rw [e1]; exact row_set V.out _, row_set' (by omega) O.out _, row_set' (by omega) P.out _, row_set' (by omega) Z.out _, Below_setRow hB.out (by omega) _⟩
        case measure => simp [intOf]; omega
      · have hdec : decide (wetF s p q < wetF s x y) = false := by simpa using hgt
        go_wp2
        (refine region_at (by kernel_rfl) (by kernel_rfl) ?_; intro W hW; rw [hW] at hB P Z V O; clear hW; have P' := Go.Lib.hid (cls_row' P.out); have Z' := Go.Lib.hid (cls_row' Z.out); have V' := Go.Lib.hid (cls_row' V.out); have O' := Go.Lib.hid (cls_row' O.out); (repeat (first | go_big_quiet_skip | (refine wpQuiet_loadmid 33 _ rfl (by first | exact want_n rfl | exact want_g _ _ _ rfl rfl rfl) bv _ rfl 2 2 (spAt p q) _ rw_spot size_spot V'.out (by omega) ?_; rw [sp_row]; simp only [Act.put, List.setIfInBounds_toArray, List.set_cons_succ, List.set_cons_zero]) | (refine wpQuiet_loadmid 33 _ rfl (by first | exact want_n rfl | exact want_g _ _ _ rfl rfl rfl) g (k * 2) rfl (cap * 2) 2 f _ rw_spot size_spot O'.out (by omega) ?_; rw [HR.out]; simp only [Act.put, List.setIfInBounds_toArray, List.set_cons_succ, List.set_cons_zero]) | go_big_quiet_step ((go_at_call 57; first | with_reducible exact cls_call _ (fun w hw => HWV.out _ x y w (row_next hw P.out) hx hy) | with_reducible exact cls_call _ (fun w hw => HWQ.out _ p q w (row_next hw P.out) hp hq))))); refine wpQuiet_nil ?_; intro Wn hb; replace P := Go.Lib.hid (row_next hb P.out); replace Z := Go.Lib.hid (row_next hb Z.out); replace V := Go.Lib.hid (row_next hb V.out); replace O := Go.Lib.hid (row_next hb O.out); replace hB := Go.Lib.hid (below_next hB.out hb); clear hb P' Z' V' O')
        go_wp2
        go_roundw
        case rel =>
          have e1 : (L.take (k + 1)).foldl (wstep (wetF s)) p0 = ⟨(p, q), hp, hq⟩ := by rw [hap.out, wstep, if_neg (by simpa using hgt)]
          exact ⟨k + 1, by omega, by omega, by go_num, by rw [e1]; exact V.out, O.out, P.out, Z.out, hB.out⟩
        case measure => simp [intOf]; omega
    · obtain rfl : k = L.length := by omega
      rw [hfold _ hk1, show l0.take (L.length - 1) = l0 by rw [← hlen]; simp] at V
      obtain ⟨⟨⟨p, q⟩, hp, hq⟩, hpe⟩ : ∃ v, l0.foldl (wstep (wetF s)) p0 = v := ⟨_, rfl⟩
      rw [hpe] at V HWB
      clear hpe
      replace hp : p < 8 := hp
      replace hq : q < 8 := hq
      replace P := Go.Lib.hid P; replace O := Go.Lib.hid O; replace Z := Go.Lib.hid Z; have V : Hid (wr.heap[bv]? = some (.cells (vrow 2 (spAt p q)) 33)) := V; replace hB := Go.Lib.hid hB
      have hkd : decide ((L.length : Int) < (L.length : Int)) = false := by simp
      have hw := HWB.out
      simp only at hw
      by_cases h0 : wetF s p q = 0
      · have hdec : decide (wetF s p q = 0) = true := by simpa using h0
        have hres : specRes (best (wetF s) L) = .tuple #[.agg (vrow 2 (spAt 0 0)), .int .i64 0, .int .i64 6] := specRes_no (by rcases hw with h | h <;> omega)
        have HRES := Go.Lib.hid hres
        clear hres hw
        go_wp2_with (first
          | (refine wpList_loadall rfl 33 (.tmp 6) rfl _ rfl 2 (spAt p q) 33 _ Tryd.underlying33 rfl size_spot V.out ?_)
          | (refine wpList_built rfl 33 [] rfl [] (by rfl) _ built_zspot ?_)
          | (refine wpList_storeall rfl 33 (.tmp 2) (.tmp 36) rfl (w.heap.size + 1) rfl 2 (spAt 0 0) (spAt 0 0) rfl 33 size_spot Z.out (fun i _ => spAt_one _ _ i) ?_; replace Z := Go.Lib.hid (row_set Z.out (vrow 2 (spAt 0 0))); replace hB := Go.Lib.hid (Below_setRow hB.out (show w.heap.size ≤ w.heap.size + 1 by omega) (vrow 2 (spAt 0 0))))
          | (go_at_call 57; (refine (HW.out _ p q _ P.out hp hq).mono ?_; rintro e w1 ⟨rfl, hb⟩; replace P := Go.Lib.hid (row_next hb P.out); replace Z := Go.Lib.hid (row_next hb Z.out); replace V := Go.Lib.hid (row_next hb V.out); replace O := Go.Lib.hid (row_next hb O.out); replace hB := Go.Lib.hid (below_next hB.out hb); clear hb )))
        exact ret_row3 Tryd.results14 (w.heap.size + 1) 2 (spAt 0 0) 33 _ Tryd.underlying33 rfl size_spot (.int .i64 0) (.int .i64 6) rfl rfl rfl rfl Z.out ⟨by rw [HRES.out], hB.out⟩
      · have hdec : decide (wetF s p q = 0) = false := by simpa using h0
        have hres : specRes (best (wetF s) L) = .tuple #[.agg (vrow 2 (spAt p q)), .int .i64 (wetF s p q), .int .i64 0] := by
          rcases hw with h | ⟨h1, h2, h3⟩
          · omega
          · rw [specRes_yes (by omega), h1, h2]
        have HRES := Go.Lib.hid hres
        clear hres hw
        go_wp2_with (first
          | (refine wpList_loadall rfl 33 (.tmp 6) rfl _ rfl 2 (spAt p q) 33 _ Tryd.underlying33 rfl size_spot V.out ?_)
          | (go_at_call 57; (refine (HW.out _ p q _ P.out hp hq).mono ?_; rintro e w1 ⟨rfl, hb⟩; replace P := Go.Lib.hid (row_next hb P.out); replace Z := Go.Lib.hid (row_next hb Z.out); replace V := Go.Lib.hid (row_next hb V.out); replace O := Go.Lib.hid (row_next hb O.out); replace hB := Go.Lib.hid (below_next hB.out hb); clear hb )))
        refine Code.wp_mono (Q := fun ex a' W' => ex = .normal ∧ a'.tmps.getD 2 undef = .pointer (some ⟨w.heap.size + 1, 0, none⟩) ∧ a'.tmps.getD 3 undef = .int .i64 (wetF s p q) ∧ a'.tmps.getD 4 undef = .int .i64 0 ∧ a'.defers = [] ∧ Below w.heap.size w W' ∧ W'.heap[w.heap.size + 1]? = some (.cells (vrow 2 (spAt p q)) 33)) ?_ ?_
        rotate_left
        · have Vz := Z.out
          have h3 := hB.out
          have h4 := V.out
          have h5 := P.out
          clear Z hB V P O
          refine wp_region_held_drew (S := fun W' => Below w.heap.size w W' ∧ W'.heap[bv]? = some (.cells (vrow 2 (spAt p q)) 33) ∧ W'.heap[w.heap.size]? = some (.cells (vrow 266 s.at) 36)) (by kernel_rfl) ⟨h3.drew, h4, h5⟩ (fun hH => ?_)
          clear h3 h4 h5
          replace Vz := drew_row Vz
          generalize World.drew _ = W4 at hH Vz ⊢
          refine wpAnyH_take (i := 0) (v := (.agg (vrow 2 (spAt p q)))) rfl (by kernel_rfl) (by kernel_rfl) (by kernel_rfl) (fun _ _ _ h => by cases h.1) (yields_row (by rfl) 33 _ rfl bv rfl 2 (spAt p q) 33 _ Tryd.underlying33 rfl size_spot (fun _ h => h.2.1)) hH ?_
          (try simp only [Act.put, List.setIfInBounds_toArray, List.set_cons_succ, List.set_cons_zero])
          refine wpAnyH_take (i := 1) (v := (.agg (vrow 2 (spAt p q)))) rfl (by kernel_rfl) (by kernel_rfl) (by kernel_rfl) (fun _ _ _ h => by cases h.1) (yields_row (by rfl) 33 _ rfl bv rfl 2 (spAt p q) 33 _ Tryd.underlying33 rfl size_spot (fun _ h => h.2.1)) hH ?_
          (try simp only [Act.put, List.setIfInBounds_toArray, List.set_cons_succ, List.set_cons_zero])
          refine wpAnyH_ready (rs := [2]) (by kernel_rfl) (by simp) (AllReadyH.cons rfl (fun K hK => ?_) AllReadyH.nil)
          rw [if_pos (by rfl)]
          go_simp
          go_at_call 57
          refine (HW.out _ p q _ hH.2.2 hp hq).mono ?_
          rintro o X1 ⟨rfl, hb⟩
          replace hH : Below w.heap.size w X1 ∧ X1.heap[bv]? = some (.cells (vrow 2 (spAt p q)) 33) ∧ X1.heap[w.heap.size]? = some (.cells (vrow 266 s.at) 36) := ⟨hH.1.trans (hb.mono hH.1.size), row_next hb hH.2.1, row_next hb hH.2.2⟩
          replace Vz := row_next hb Vz
          clear hb
          refine hK.out _ _ hH (fun hH => ?_)
          clear hK K
          (try simp only [Act.put, List.setIfInBounds_toArray, List.set_cons_succ, List.set_cons_zero])
          refine wpAnyH_ready (rs := [3]) (by kernel_rfl) (by simp) (AllReadyH.cons rfl (fun K hK => ?_) AllReadyH.nil)
          rw [if_pos (by rfl)]
          unfold Oper.wp
          rw [run_storemid 33 (.tmp 2) (.tmp 37) rfl (w.heap.size + 1) 0 rfl 2 2 (spAt 0 0) (spAt p q) rfl 33 size_spot Vz (by omega) (fun i _ => spAt_one _ _ i), vrow_over_all, Oper.upon_skip]
          have V2 := row_set Vz (vrow 2 (spAt p q))
          have hH2 : Below w.heap.size w (X1.setRow (w.heap.size + 1) (vrow 2 (spAt p q))) ∧ (X1.setRow (w.heap.size + 1) (vrow 2 (spAt p q))).heap[bv]? = some (.cells (vrow 2 (spAt p q)) 33) ∧ (X1.setRow (w.heap.size + 1) (vrow 2 (spAt p q))).heap[w.heap.size]? = some (.cells (vrow 266 s.at) 36) := ⟨Below_setRow hH.1 (by omega) _, row_set' (by omega) hH.2.1 _, row_set' (by omega) hH.2.2 _⟩
          clear Vz
          generalize World.setRow X1 _ _ = WS at V2 hH2 ⊢
          refine hK.out _ _ hH2 (fun hH => ?_)
          clear hK K hH2
          (try simp only [Act.put, List.setIfInBounds_toArray, List.set_cons_succ, List.set_cons_zero])
          refine wpAnyH_take (i := 4) (v := (.int .i64 (wetF s p q))) rfl (by kernel_rfl) (by kernel_rfl) (by kernel_rfl) (fun _ _ _ h => by cases h.1) (.inl ⟨by rfl, fun w _ => by go_simp⟩) hH ?_
          (try simp only [Act.put, List.setIfInBounds_toArray, List.set_cons_succ, List.set_cons_zero])
          refine wpAnyH_take (i := 5) (v := (.int .i64 0)) rfl (by kernel_rfl) (by kernel_rfl) (by kernel_rfl) (fun _ _ _ h => by cases h.1) (.inl ⟨by rfl, fun w _ => by go_simp⟩) hH ?_
          (try simp only [Act.put, List.setIfInBounds_toArray, List.set_cons_succ, List.set_cons_zero])
          refine wpAnyH_done (by kernel_rfl) ?_ _
          exact ⟨rfl, rfl, rfl, rfl, rfl, hH.1, V2⟩
        · rintro e1 a1 W1 ⟨rfl, t4, t5, t6, hdf, hB, Z⟩
          go_wp2
          exact ret_row3 Tryd.results14 (w.heap.size + 1) 2 (spAt p q) 33 _ Tryd.underlying33 rfl size_spot (.int .i64 (wetF s p q)) (.int .i64 0) t4 t5 t6 hdf Z ⟨by rw [HRES.out], hB⟩
end Go.Proofs.YtfgcpiipndhllaaDoor
