import Derived.Deep.RegionHeld3
import Derived.Test.YtfhfiaphdgfmnaaDoorCopy
import Derived.Test.YtfhfiaphdgfmnaaDoorSpots
namespace Go.Proofs.YtfhfiaphdgfmnaaDoor
open Go.RowKit
set_option maxRecDepth 100000
set_option linter.unusedVariables false
set_option linter.unusedSimpArgs false
set_option linter.unusedSimpArgs false
theorem yields_built {P : Program} {ops : Array Oper} {S : World → Prop} {o : Oper} {a : Act} (hw : Region.wanted o (yielded ops a.tmps) = true) (t : TypeId) (parts : List (Nat × Operand)) (ho : o.op = .build t parts.toArray)
    (l : List (Nat × Value)) (hl : (parts.map fun p => (p.1, a.eval p.2)) = l) (cells : Array Value) (hc : P.built t l = some cells) : YieldsIf P ops S o (.agg cells) a :=
  .inl ⟨hw, fun w _ => by
    have e : ((parts.toArray.map fun (i, x) => (i, a.eval x)).toList) = l := by rw [← hl]; simp
    unfold execOp
    simp only [ho, Sem.run_bind, run_build w t _ cells (by rw [e]; exact hc), Result.andThen_ok]
    rfl⟩
set_option maxHeartbeats 8000000 in
theorem specMirC (s : Sh) (b a c : Nat) (w : World) (hs : w.heap[b]? = some (.cells (vrow 266 s.at) 39)) (ea : s.wide = a) (ec : s.high = c) (ha : 1 ≤ a ∧ a ≤ 8) (hc : 1 ≤ c ∧ c ≤ 8) : Calls Tryd.prog 53 #[.pointer (some ⟨b, 0, none⟩)] w fun e w' => e = .returned (.agg (arrS s (fun x y => a - 1 - x) (fun x y => y) (plainSh a c) (pairsL a c)).row) ∧ Below w.heap.size w w' := by
  have zz := zero_sheet
  have hbs := row_lt hs
  have hB : Hid (Below w.heap.size w (w.alloc (.cells (vrow 266 Sh.zero.at) 39))) := ((Below.refl w.heap.size w).alloc (by simp <;> omega) _)
  have Z : Hid ((w.alloc (.cells (vrow 266 Sh.zero.at) 39)).heap[(w.heap.size)]? = some (.cells (vrow 266 Sh.zero.at) 39)) := heap_at _ _ _ (by simp)
  have P : Hid ((w.alloc (.cells (vrow 266 Sh.zero.at) 39)).heap[b]? = some (.cells (vrow 266 s.at) 39)) := heap_past _ _ _ _ (by first | (have := row_lt hs; omega) | (have := row_lt hs; simp <;> omega)) (hs)
  go_enter Tryd.func53, Tryd.ntmps53
  go_wp2
  refine Code.wp_mono (Q := fun ex a' W' => ex = .normal ∧ ∃ mb, w.heap.size < mb ∧ a' = { tmps := #[.pointer (some ⟨b, 0, none⟩), undef, .pointer (some ⟨w.heap.size, 0, none⟩), .pointer (some ⟨mb, 0, none⟩), undef, undef, .pointer (some ⟨b, 0, none⟩), .pointer (some ⟨b, 0, none⟩), .pointer (some ⟨b, 0, none⟩), .int .i8 a, .pointer (some ⟨b, 0, none⟩), .pointer (some ⟨b, 0, none⟩), .pointer (some ⟨b, 1, none⟩), .int .i8 c, .agg (plainSh a c).row, undef, undef, undef, undef, undef, undef, undef, undef, undef, undef, undef, undef, undef, undef, undef, undef, undef, undef, undef, undef, undef, undef, undef, undef, undef, undef, undef, undef, undef, undef, undef, undef], defers := [] } ∧ (Below w.heap.size w W' ∧ W'.heap[b]? = some (.cells (vrow 266 s.at) 39) ∧ W'.heap[w.heap.size]? = some (.cells (vrow 266 Sh.zero.at) 39)) ∧ W'.heap[mb]? = some (.cells (vrow 266 (plainSh a c).at) 39)) ?_ ?_
  rotate_left
  · have hszx : w.heap.size < (World.drew (w.alloc (.cells (vrow 266 Sh.zero.at) 39))).heap.size := by show w.heap.size < (w.alloc _).heap.size; simp
    refine wp_region_held_drew (S := fun W' => Below w.heap.size w W' ∧ W'.heap[b]? = some (.cells (vrow 266 s.at) 39) ∧ W'.heap[w.heap.size]? = some (.cells (vrow 266 Sh.zero.at) 39)) (by kernel_rfl) ⟨hB.out.drew, P.out, Z.out⟩ (fun hH => ?_)
    clear hB P Z
    generalize World.drew _ = W4 at hH hszx ⊢
    refine wpAnyH_take (i := 0) (v := (.pointer (some ⟨b, 0, none⟩))) rfl (by kernel_rfl) (by kernel_rfl) (by kernel_rfl) (fun _ _ _ h => by cases h.1) (.inl ⟨by rfl, fun w _ => by go_simp⟩) hH ?_
    (try simp only [Act.put, List.setIfInBounds_toArray, List.set_cons_succ, List.set_cons_zero])
    refine wpAnyH_take (i := 1) (v := (.pointer (some ⟨b, 0, none⟩))) rfl (by kernel_rfl) (by kernel_rfl) (by kernel_rfl) (fun _ _ _ h => by cases h.1) (.inl ⟨by rfl, fun w _ => by go_simp⟩) hH ?_
    (try simp only [Act.put, List.setIfInBounds_toArray, List.set_cons_succ, List.set_cons_zero])
    refine wpAnyH_take (i := 2) (v := (.pointer (some ⟨b, 0, none⟩))) rfl (by kernel_rfl) (by kernel_rfl) (by kernel_rfl) (fun _ _ _ h => by cases h.1) (.inl ⟨by rfl, fun w _ => by go_simp⟩) hH ?_
    (try simp only [Act.put, List.setIfInBounds_toArray, List.set_cons_succ, List.set_cons_zero])
    refine wpAnyH_take (i := 3) (v := (s.at 0)) rfl (by kernel_rfl) (by kernel_rfl) (by kernel_rfl) (fun _ _ _ h => by cases h.1) (yields_one (by rfl) 23 _ rfl b 0 (by kernel_rfl) 266 s.at _ _ Tryd.underlying23 rfl (by omega) (fun _ h => h.2.1)) hH ?_
    (try simp only [Act.put, List.setIfInBounds_toArray, List.set_cons_succ, List.set_cons_zero])
    rw [Sh.at_0, ea]
    refine wpAnyH_take (i := 4) (v := (.pointer (some ⟨b, 0, none⟩))) rfl (by kernel_rfl) (by kernel_rfl) (by kernel_rfl) (fun _ _ _ h => by cases h.1) (.inl ⟨by rfl, fun w _ => by go_simp⟩) hH ?_
    (try simp only [Act.put, List.setIfInBounds_toArray, List.set_cons_succ, List.set_cons_zero])
    refine wpAnyH_take (i := 5) (v := (.pointer (some ⟨b, 0, none⟩))) rfl (by kernel_rfl) (by kernel_rfl) (by kernel_rfl) (fun _ _ _ h => by cases h.1) (.inl ⟨by rfl, fun w _ => by go_simp⟩) hH ?_
    (try simp only [Act.put, List.setIfInBounds_toArray, List.set_cons_succ, List.set_cons_zero])
    refine wpAnyH_take (i := 6) (v := (.pointer (some ⟨b, 1, none⟩))) rfl (by kernel_rfl) (by kernel_rfl) (by kernel_rfl) (fun _ _ _ h => by cases h.1) (.inl ⟨by rfl, fun w _ => by go_simp⟩) hH ?_
    (try simp only [Act.put, List.setIfInBounds_toArray, List.set_cons_succ, List.set_cons_zero])
    refine wpAnyH_take (i := 7) (v := (s.at 1)) rfl (by kernel_rfl) (by kernel_rfl) (by kernel_rfl) (fun _ _ _ h => by cases h.1) (yields_one (by rfl) 23 _ rfl b 1 (by kernel_rfl) 266 s.at _ _ Tryd.underlying23 rfl (by omega) (fun _ h => h.2.1)) hH ?_
    (try simp only [Act.put, List.setIfInBounds_toArray, List.set_cons_succ, List.set_cons_zero])
    rw [Sh.at_1, ec]
    refine wpAnyH_take (i := 8) (v := (.agg (plainSh a c).row)) rfl (by kernel_rfl) (by kernel_rfl) (by kernel_rfl) (fun _ _ _ h => by cases h.1) (yields_built (by rfl) 39 [(0, .tmp 9), (1, .tmp 13)] rfl [(0, .int .i8 a), (1, .int .i8 c)] (by kernel_rfl) _ (built_plain a c)) hH ?_
    (try simp only [Act.put, List.setIfInBounds_toArray, List.set_cons_succ, List.set_cons_zero])
    refine wpAnyH_ready (rs := [9]) (by kernel_rfl) (by simp) (AllReadyH.cons rfl (fun K hK => ?_) AllReadyH.nil)
    rw [if_pos (by rfl)]
    go_simp
    have V := heap_at W4 (.cells (vrow 266 Sh.zero.at) 39) _ rfl
    replace hH : Below w.heap.size w (W4.alloc (.cells (vrow 266 Sh.zero.at) 39)) ∧ (W4.alloc (.cells (vrow 266 Sh.zero.at) 39)).heap[b]? = some (.cells (vrow 266 s.at) 39) ∧ (W4.alloc (.cells (vrow 266 Sh.zero.at) 39)).heap[w.heap.size]? = some (.cells (vrow 266 Sh.zero.at) 39) := ⟨hH.1.alloc hH.1.size _, heap_past _ _ _ _ (row_lt hH.2.1) hH.2.1, heap_past _ _ _ _ (row_lt hH.2.2) hH.2.2⟩
    refine hK.out _ _ hH (fun hH => ?_)
    clear hK K
    (try simp only [Act.put, List.setIfInBounds_toArray, List.set_cons_succ, List.set_cons_zero])
    have hmb : w.heap.size < W4.heap.size := hszx
    generalize hb7 : W4.heap.size = mb at V hmb ⊢
    generalize W4.alloc _ = W5 at hH V ⊢
    clear hb7
    refine wpAnyH_ready (rs := [10]) (by kernel_rfl) (by simp) (AllReadyH.cons rfl (fun K hK => ?_) AllReadyH.nil)
    rw [if_pos (by rfl)]
    unfold Oper.wp
    rw [run_storemid 39 (.tmp 3) (.tmp 14) rfl mb 0 (by kernel_rfl) 266 266 Sh.zero.at (plainSh a c).at (by kernel_rfl) 39 size_sheet V (by omega) (fun i _ => Sh.one _ i), vrow_over_all, Oper.upon_skip]
    have V2 := row_set V (vrow 266 (plainSh a c).at)
    have hH2 : Below w.heap.size w (W5.setRow mb (vrow 266 (plainSh a c).at)) ∧ (W5.setRow mb (vrow 266 (plainSh a c).at)).heap[b]? = some (.cells (vrow 266 s.at) 39) ∧ (W5.setRow mb (vrow 266 (plainSh a c).at)).heap[w.heap.size]? = some (.cells (vrow 266 Sh.zero.at) 39) := ⟨Below_setRow hH.1 (by omega) _, row_set' (by omega) hH.2.1 _, row_set' (by omega) hH.2.2 _⟩
    generalize World.setRow _ _ _ = WS at V2 hH2 ⊢
    refine hK.out _ _ hH2 (fun hH => ?_)
    clear hK K hH2
    (try simp only [Act.put, List.setIfInBounds_toArray, List.set_cons_succ, List.set_cons_zero])
    refine wpAnyH_done (by kernel_rfl) ?_ _
    exact ⟨rfl, mb, hmb, rfl, hH, V2⟩
  · rintro e1 a1 W1 ⟨rfl, mb, hmb, rfl, ⟨hB, P, Z⟩, V⟩
    replace hB := Go.Lib.hid hB; replace P := Go.Lib.hid P; replace Z := Go.Lib.hid Z; replace V := Go.Lib.hid V
    have hZ0 := row_lt V.out
    have hLn : (cellsL a c).length = a * c := cellsL_length a c
    have hac : 1 ≤ (cellsL a c).length ∧ (cellsL a c).length ≤ 64 := by rw [hLn]; exact ⟨Nat.mul_le_mul ha.1 hc.1, Nat.mul_le_mul ha.2 hc.2⟩
    have hval : (cellsL a c).map (·.1) = pairsL a c := cellsL_val a c ha.2 c hc.2
    have hmem : ∀ p ∈ (cellsL a c), p.1.1 < a ∧ p.1.2 < c := fun p hp => pairsL_mem (by rw [← hval]; exact List.mem_map_of_mem hp)
    have HSp := Go.Lib.hid fun w hs => spots_any s b a c w hs ea ec ha.2 hc.2
    generalize (cellsL a c) = L at *
    clear hLn
    go_wp2_with (first
      | (go_at_call 87; (refine (HSp.out _ P.out).mono ?_; rintro e w2 ⟨v, rfl, hO, hb⟩; have ngb := hb.size; have nP := row_lt P.out; have nZ := row_lt Z.out; replace P := Go.Lib.hid (row_next hb P.out); replace Z := Go.Lib.hid (row_next hb Z.out); replace V := Go.Lib.hid (row_next hb V.out); replace hB := Go.Lib.hid (below_next hB.out hb); obtain ⟨g, cap, f, rfl, hg, hcap, hO2, hf2⟩ := hO.row (by omega); have O := Go.Lib.hid hO2; have HF := Go.Lib.hid hf2; clear hO hO2 hf2 hb ngb)))
    obtain ⟨wo, hwo⟩ : ∃ wo : World, wo = w2 := ⟨_, rfl⟩
    rw [← hwo] at P Z V hB O ⊢
    clear hwo w2
    go_loopw [5] (fun iv wr => ∃ k : Nat, k ≤ L.length ∧ iv = .int .i64 k ∧ wr.heap[mb]? = some (.cells (vrow 266 (arrS s (fun x y => a - 1 - x) (fun x y => y) (plainSh a c) ((L.take k).map (·.1))).at) 39) ∧ wr.heap[g]? = some (.cells (vrow (cap * 2) f) 105) ∧ wr.heap[b]? = some (.cells (vrow 266 s.at) 39) ∧ wr.heap[w.heap.size]? = some (.cells (vrow 266 Sh.zero.at) 39) ∧ Below w.heap.size w wr) (fun iv _ => L.length - (intOf iv).toNat)
    case atStart => exact ⟨0, by omega, rfl, V.out, O.out, P.out, Z.out, hB.out⟩
    case round =>
      clear V O P Z hB
      obtain ⟨k, hk, rfl, V, O, P, Z, hB⟩ := hrel
      have hsz3 := hB.size
      by_cases hlt : k < L.length
      · have hf2 := HF.out k hlt
        obtain ⟨⟨⟨x, y⟩, hx, hy⟩, hp⟩ : ∃ p, L[k]'hlt = p := ⟨_, rfl⟩
        have hin := hmem _ (List.getElem_mem hlt)
        have hap : arrS s (fun x y => a - 1 - x) (fun x y => y) (plainSh a c) ((L.take (k + 1)).map (·.1)) = copyS s (arrS s (fun x y => a - 1 - x) (fun x y => y) (plainSh a c) ((L.take k).map (·.1))) x y (a - 1 - x) (y) := by
          rw [List.take_succ_eq_append_getElem hlt, hp]
          simp [arrS, List.foldl_append]
        rw [hp] at hf2 hin
        clear hp
        replace hx : x < 8 := hx
        replace hy : y < 8 := hy
        obtain ⟨hxa, hyc⟩ : x < a ∧ y < c := hin
        obtain ⟨fx0, fx1⟩ : f (k * 2) = .int .i8 x ∧ f (k * 2 + 1) = .int .i8 y := hf2
        have hR : vrow 2 (fun i => f (k * 2 + i)) = vrow 2 (spAt x y) := vrow_ext _ _ _ fun i hi => by
          have hi2 : i = 0 ∨ i = 1 := by omega
          rcases hi2 with rfl | rfl
          · rw [Nat.add_zero, fx0]; rfl
          · rw [fx1]; rfl
        have HR := Go.Lib.hid hR; have hap := Go.Lib.hid hap; have F0 := Go.Lib.hid fx0; have F1 := Go.Lib.hid fx1
        clear hR fx0 fx1
        generalize (arrS s (fun x y => a - 1 - x) (fun x y => y) (plainSh a c) ((L.take k).map (·.1))) = T at *
        have hc := Go.Lib.hid fun w (hs : w.heap[b]? = some (.cells (vrow 266 s.at) 39)) (ht : w.heap[mb]? = some (.cells (vrow 266 T.at) 39)) => copyC s T b mb x y (a - 1 - x) (y) w (by omega) hs ht hx hy (by omega) (by omega)
        have hwi : ((a - 1 - x : Nat) : Int) = (a : Int) - 1 - x := by omega
        rw [hwi] at hc
        have P : Hid (wr.heap[b]? = some (.cells (vrow 266 s.at) 39)) := P
        replace O := Go.Lib.hid O; replace Z := Go.Lib.hid Z; replace V := Go.Lib.hid V; replace hB := Go.Lib.hid hB
        have hkI : (k : Int) < (L.length : Int) := by omega
        have hk0 : (0 : Int) ≤ (k : Int) := by omega
        have hkd : decide ((k : Int) < (L.length : Int)) = true := by simpa using hkI
        clear hwi
        go_wp2
        refine wp_region_still_tail 22 (by kernel_rfl) (by kernel_rfl) ?_
        simp only [List.take_succ_cons, List.take_zero, List.drop_succ_cons, List.drop_zero, World.drew_eq]
        repeat (first
          | (refine wpStill_loadmid rfl 105 (.tmp 25) rfl g (k * 2) rfl (cap * 2) 2 f 105 _ Tryd.underlying105 rfl size_spot O.out (by omega) ?_; rw [HR.out]; simp only [Act.put, List.setIfInBounds_toArray, List.set_cons_succ, List.set_cons_zero])
          | (refine wpStill_load1 rfl 23 (.tmp 36) rfl g (k * 2) rfl (cap * 2) f _ _ Tryd.underlying23 rfl O.out (by omega) ?_; rw [F0.out]; simp only [Act.put, List.setIfInBounds_toArray, List.set_cons_succ, List.set_cons_zero])
          | (refine wpStill_load1 rfl 23 (.tmp 42) rfl g (k * 2 + 1) rfl (cap * 2) f _ _ Tryd.underlying23 rfl O.out (by omega) ?_; rw [F1.out]; simp only [Act.put, List.setIfInBounds_toArray, List.set_cons_succ, List.set_cons_zero])
          | (refine wpStill_load1 rfl 23 (.tmp 30) rfl b 0 rfl 266 s.at _ _ Tryd.underlying23 rfl P.out (by omega) ?_; rw [Sh.at_0, ea]; simp only [Act.put, List.setIfInBounds_toArray, List.set_cons_succ, List.set_cons_zero])
          | still_step
          | (refine wpStill_step (fun K hK => ?_); go_simp; simp only [hkI, hk0, if_true]; go_simp; refine hK _ ?_; clear hK K))
        refine wpStill_nil ?_
        go_wp2_with (first
          | (go_at_call 88; (refine (hc.out _ (by exact P.out) (by exact V.out)).mono ?_; rintro e w3 ⟨⟨r, rfl⟩, hg3, hM3⟩))
          )
        have P3 : w3.heap[b]? = some (.cells (vrow 266 s.at) 39) := (hg3.block b (by have := row_lt P.out; simpa using this) (by simp; omega)).trans P.out
        have O3 : w3.heap[g]? = some (.cells (vrow (cap * 2) f) 105) := (hg3.block g (by have := row_lt O.out; simpa using this) (by simp; omega)).trans O.out
        have Z3 : w3.heap[w.heap.size]? = some (.cells (vrow 266 Sh.zero.at) 39) := (hg3.block w.heap.size (by have := row_lt Z.out; simpa using this) (by simp; omega)).trans Z.out
        have B3 : Below w.heap.size w w3 := hB.out.drew.grown hg3 (by simpa using hsz3) (fun q hq => by cases hq; omega)
        go_roundw
        case rel => exact ⟨k + 1, by omega, by go_num, by rw [hap.out]; exact hM3, O3, P3, Z3, B3⟩
        case measure => simp [intOf]; omega
      · obtain rfl : k = L.length := by omega
        rw [List.take_length, hval] at V
        have hkd : decide ((L.length : Int) < (L.length : Int)) = false := by simp
        replace O := Go.Lib.hid O; replace Z := Go.Lib.hid Z; replace V := Go.Lib.hid V; replace hB := Go.Lib.hid hB
        clear P
        go_wp2_with (first
          | (refine wpList_loadall rfl 39 (.tmp 3) rfl _ rfl 266 (arrS s (fun x y => a - 1 - x) (fun x y => y) (plainSh a c) (pairsL a c)).at 39 _ Tryd.underlying39 rfl size_sheet V.out ?_)
          | (refine wpList_storeall rfl 39 (.tmp 2) (.tmp 46) rfl w.heap.size rfl 266 Sh.zero.at (arrS s (fun x y => a - 1 - x) (fun x y => y) (plainSh a c) (pairsL a c)).at rfl 39 size_sheet Z.out (fun i _ => Sh.one _ i) ?_))
        have Z2 := row_set Z.out (vrow 266 (arrS s (fun x y => a - 1 - x) (fun x y => y) (plainSh a c) (pairsL a c)).at)
        exact ret_row Tryd.results53 w.heap.size 266 (arrS s (fun x y => a - 1 - x) (fun x y => y) (plainSh a c) (pairsL a c)).at 39 _ Tryd.underlying39 rfl size_sheet rfl rfl Z2 ⟨rfl, Below_setRow hB.out (Nat.le_refl _) _⟩
end Go.Proofs.YtfhfiaphdgfmnaaDoor
