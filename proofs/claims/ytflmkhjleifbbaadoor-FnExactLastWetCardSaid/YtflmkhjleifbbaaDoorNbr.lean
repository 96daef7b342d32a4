import Derived.Deep.RegionHeld3
import Derived.Test.YtflmkhjleifbbaaDoorIndex
import Derived.Test.YtflmkhjleifbbaaDoorBeside
import Derived.Test.YtflmkhjleifbbaaDoorArrBase
namespace Go.Proofs.YtflmkhjleifbbaaDoor
open Go.RowKit
set_option maxRecDepth 100000
set_option linter.unusedVariables false
set_option linter.unusedSimpArgs false
theorem wrap8 (n : Int) (h : -128 ≤ n ∧ n ≤ 127) : IntKind.i8.wrap n = n := IntWalk.i8_in n h
set_option maxHeartbeats 400000 in
theorem north_any (x y : Nat) (w : World) (hx : x < 8) (hy : y < 8) : Calls Tryd.prog 71 #[.agg (vrow 2 (spAt x y))] w fun e w' => e = .returned (.agg (vrow 2 (spAt (x) ((y : Int) - 1)))) ∧ Below w.heap.size w w' := by
  have zs := zero_spot
  have hB : Hid (Below w.heap.size w ((w.alloc (.cells (vrow 2 (spAt x y)) 42)).alloc (.cells (vrow 2 (spAt 0 0)) 42))) := (((Below.refl w.heap.size w).alloc (by simp <;> omega) _).alloc (by simp <;> omega) _)
  have R : Hid (((w.alloc (.cells (vrow 2 (spAt x y)) 42)).alloc (.cells (vrow 2 (spAt 0 0)) 42)).heap[(w.heap.size)]? = some (.cells (vrow 2 (spAt x y)) 42)) := heap_past _ _ _ _ (by first | omega | (simp <;> omega)) (heap_at _ _ _ (by simp))
  have Z : Hid (((w.alloc (.cells (vrow 2 (spAt x y)) 42)).alloc (.cells (vrow 2 (spAt 0 0)) 42)).heap[(w.heap.size + 1)]? = some (.cells (vrow 2 (spAt 0 0)) 42)) := heap_at _ _ _ (by simp)
  go_enter Tryd.func71, Tryd.ntmps71
  go_wp2_with (first
    | (refine wpList_load1 rfl 22 _ rfl (w.heap.size) _ rfl 2 (spAt x y) _ _ Tryd.underlying22 rfl R.out (by omega) ?_; (first | rw [spAt_0] | rw [spAt_1]))
    | (refine wpList_storeall rfl 42 (.tmp 2) (.tmp 8) rfl (w.heap.size + 1) rfl 2 (spAt 0 0) (spAt (x) ((y : Int) - 1)) rfl 42 size_spot Z.out (fun i _ => spAt_one _ _ i) ?_; replace Z := Go.Lib.hid (row_set Z.out (vrow 2 (spAt (x) ((y : Int) - 1)))); replace hB := Go.Lib.hid (Below_setRow hB.out (show w.heap.size ≤ w.heap.size + 1 by omega) (vrow 2 (spAt (x) ((y : Int) - 1))))))
  refine ret_row Tryd.results71 (w.heap.size + 1) 2 (spAt (x) ((y : Int) - 1)) 42 _ Tryd.underlying42 rfl size_spot rfl rfl Z.out ?_
  exact ⟨rfl, hB.out⟩
set_option maxHeartbeats 400000 in
theorem east_any (x y : Nat) (w : World) (hx : x < 8) (hy : y < 8) : Calls Tryd.prog 72 #[.agg (vrow 2 (spAt x y))] w fun e w' => e = .returned (.agg (vrow 2 (spAt ((x : Int) + 1) (y)))) ∧ Below w.heap.size w w' := by
  have zs := zero_spot
  have hB : Hid (Below w.heap.size w ((w.alloc (.cells (vrow 2 (spAt x y)) 42)).alloc (.cells (vrow 2 (spAt 0 0)) 42))) := (((Below.refl w.heap.size w).alloc (by simp <;> omega) _).alloc (by simp <;> omega) _)
  have R : Hid (((w.alloc (.cells (vrow 2 (spAt x y)) 42)).alloc (.cells (vrow 2 (spAt 0 0)) 42)).heap[(w.heap.size)]? = some (.cells (vrow 2 (spAt x y)) 42)) := heap_past _ _ _ _ (by first | omega | (simp <;> omega)) (heap_at _ _ _ (by simp))
  have Z : Hid (((w.alloc (.cells (vrow 2 (spAt x y)) 42)).alloc (.cells (vrow 2 (spAt 0 0)) 42)).heap[(w.heap.size + 1)]? = some (.cells (vrow 2 (spAt 0 0)) 42)) := heap_at _ _ _ (by simp)
  go_enter Tryd.func72, Tryd.ntmps72
  go_wp2_with (first
    | (refine wpList_load1 rfl 22 _ rfl (w.heap.size) _ rfl 2 (spAt x y) _ _ Tryd.underlying22 rfl R.out (by omega) ?_; (first | rw [spAt_0] | rw [spAt_1]))
    | (refine wpList_storeall rfl 42 (.tmp 2) (.tmp 8) rfl (w.heap.size + 1) rfl 2 (spAt 0 0) (spAt ((x : Int) + 1) (y)) rfl 42 size_spot Z.out (fun i _ => spAt_one _ _ i) ?_; replace Z := Go.Lib.hid (row_set Z.out (vrow 2 (spAt ((x : Int) + 1) (y)))); replace hB := Go.Lib.hid (Below_setRow hB.out (show w.heap.size ≤ w.heap.size + 1 by omega) (vrow 2 (spAt ((x : Int) + 1) (y))))))
  refine ret_row Tryd.results72 (w.heap.size + 1) 2 (spAt ((x : Int) + 1) (y)) 42 _ Tryd.underlying42 rfl size_spot rfl rfl Z.out ?_
  exact ⟨rfl, hB.out⟩
set_option maxHeartbeats 400000 in
theorem south_any (x y : Nat) (w : World) (hx : x < 8) (hy : y < 8) : Calls Tryd.prog 73 #[.agg (vrow 2 (spAt x y))] w fun e w' => e = .returned (.agg (vrow 2 (spAt (x) ((y : Int) + 1)))) ∧ Below w.heap.size w w' := by
  have zs := zero_spot
  have hB : Hid (Below w.heap.size w ((w.alloc (.cells (vrow 2 (spAt x y)) 42)).alloc (.cells (vrow 2 (spAt 0 0)) 42))) := (((Below.refl w.heap.size w).alloc (by simp <;> omega) _).alloc (by simp <;> omega) _)
  have R : Hid (((w.alloc (.cells (vrow 2 (spAt x y)) 42)).alloc (.cells (vrow 2 (spAt 0 0)) 42)).heap[(w.heap.size)]? = some (.cells (vrow 2 (spAt x y)) 42)) := heap_past _ _ _ _ (by first | omega | (simp <;> omega)) (heap_at _ _ _ (by simp))
  have Z : Hid (((w.alloc (.cells (vrow 2 (spAt x y)) 42)).alloc (.cells (vrow 2 (spAt 0 0)) 42)).heap[(w.heap.size + 1)]? = some (.cells (vrow 2 (spAt 0 0)) 42)) := heap_at _ _ _ (by simp)
  go_enter Tryd.func73, Tryd.ntmps73
  go_wp2_with (first
    | (refine wpList_load1 rfl 22 _ rfl (w.heap.size) _ rfl 2 (spAt x y) _ _ Tryd.underlying22 rfl R.out (by omega) ?_; (first | rw [spAt_0] | rw [spAt_1]))
    | (refine wpList_storeall rfl 42 (.tmp 2) (.tmp 8) rfl (w.heap.size + 1) rfl 2 (spAt 0 0) (spAt (x) ((y : Int) + 1)) rfl 42 size_spot Z.out (fun i _ => spAt_one _ _ i) ?_; replace Z := Go.Lib.hid (row_set Z.out (vrow 2 (spAt (x) ((y : Int) + 1)))); replace hB := Go.Lib.hid (Below_setRow hB.out (show w.heap.size ≤ w.heap.size + 1 by omega) (vrow 2 (spAt (x) ((y : Int) + 1))))))
  refine ret_row Tryd.results73 (w.heap.size + 1) 2 (spAt (x) ((y : Int) + 1)) 42 _ Tryd.underlying42 rfl size_spot rfl rfl Z.out ?_
  exact ⟨rfl, hB.out⟩
set_option maxHeartbeats 400000 in
theorem west_any (x y : Nat) (w : World) (hx : x < 8) (hy : y < 8) : Calls Tryd.prog 74 #[.agg (vrow 2 (spAt x y))] w fun e w' => e = .returned (.agg (vrow 2 (spAt ((x : Int) - 1) (y)))) ∧ Below w.heap.size w w' := by
  have zs := zero_spot
  have hB : Hid (Below w.heap.size w ((w.alloc (.cells (vrow 2 (spAt x y)) 42)).alloc (.cells (vrow 2 (spAt 0 0)) 42))) := (((Below.refl w.heap.size w).alloc (by simp <;> omega) _).alloc (by simp <;> omega) _)
  have R : Hid (((w.alloc (.cells (vrow 2 (spAt x y)) 42)).alloc (.cells (vrow 2 (spAt 0 0)) 42)).heap[(w.heap.size)]? = some (.cells (vrow 2 (spAt x y)) 42)) := heap_past _ _ _ _ (by first | omega | (simp <;> omega)) (heap_at _ _ _ (by simp))
  have Z : Hid (((w.alloc (.cells (vrow 2 (spAt x y)) 42)).alloc (.cells (vrow 2 (spAt 0 0)) 42)).heap[(w.heap.size + 1)]? = some (.cells (vrow 2 (spAt 0 0)) 42)) := heap_at _ _ _ (by simp)
  go_enter Tryd.func74, Tryd.ntmps74
  go_wp2_with (first
    | (refine wpList_load1 rfl 22 _ rfl (w.heap.size) _ rfl 2 (spAt x y) _ _ Tryd.underlying22 rfl R.out (by omega) ?_; (first | rw [spAt_0] | rw [spAt_1]))
    | (refine wpList_storeall rfl 42 (.tmp 2) (.tmp 8) rfl (w.heap.size + 1) rfl 2 (spAt 0 0) (spAt ((x : Int) - 1) (y)) rfl 42 size_spot Z.out (fun i _ => spAt_one _ _ i) ?_; replace Z := Go.Lib.hid (row_set Z.out (vrow 2 (spAt ((x : Int) - 1) (y)))); replace hB := Go.Lib.hid (Below_setRow hB.out (show w.heap.size ≤ w.heap.size + 1 by omega) (vrow 2 (spAt ((x : Int) - 1) (y))))))
  refine ret_row Tryd.results74 (w.heap.size + 1) 2 (spAt ((x : Int) - 1) (y)) 42 _ Tryd.underlying42 rfl size_spot rfl rfl Z.out ?_
  exact ⟨rfl, hB.out⟩
/-- the ways, by number -/
def sideId : Nat → Nat
  | 0 => 71
  | 1 => 72
  | 2 => 73
  | _ => 74
def sideF (k : Nat) : Value := .func (.func (sideId k)) #[] #[]
theorem side_any (x y k : Nat) (w : World) (hx : x < 8) (hy : y < 8) (hk : k < 4) : Calls Tryd.prog (sideId k) #[.agg (vrow 2 (spAt x y))] w fun e w' => e = .returned (.agg (vrow 2 (spAt (nextX x k) (nextY y k)))) ∧ Below w.heap.size w w' := by
  have : k = 0 ∨ k = 1 ∨ k = 2 ∨ k = 3 := by omega
  rcases this with rfl | rfl | rfl | rfl
  · exact north_any x y w hx hy
  · exact east_any x y w hx hy
  · exact south_any x y w hx hy
  · exact west_any x y w hx hy
theorem size_f4 : (Tryd.prog.info? 119).map (·.size) = some 4 := by kernel_rfl
theorem zero_f4 : ∀ w, (zeroValue 119).run Tryd.prog w = .ok (.agg (vrow 4 fun _ => .nilFunc)) w := fun _ => by kernel_rfl
theorem sides_any (w : World) : Calls Tryd.prog 69 #[] w fun e w' => e = .returned (.agg (vrow 4 sideF)) ∧ Below w.heap.size w w' := by
  have hB : Hid (Below w.heap.size w (w.alloc (.cells (vrow 4 fun _ => .nilFunc) 119))) := ((Below.refl w.heap.size w).alloc (by simp <;> omega) _)
  have Z : Hid ((w.alloc (.cells (vrow 4 fun _ => .nilFunc) 119)).heap[(w.heap.size)]? = some (.cells (vrow 4 fun _ => .nilFunc) 119)) := heap_at _ _ _ (by simp)
  have z4 := zero_f4
  go_enter Tryd.func69, Tryd.ntmps69
  go_wp2_with (first
    | (refine wpList_storeall rfl 119 (.tmp 0) (.tmp 1) rfl (w.heap.size) rfl 4 (fun _ => .nilFunc) sideF rfl 119 size_f4 Z.out (fun i _ => rfl) ?_; replace Z := Go.Lib.hid (row_set Z.out (vrow 4 sideF)); replace hB := Go.Lib.hid (Below_setRow hB.out (show w.heap.size ≤ w.heap.size by omega) (vrow 4 sideF))))
  refine ret_row Tryd.results69 (w.heap.size) 4 sideF 119 _ Tryd.underlying119 rfl size_f4 rfl rfl Z.out ?_
  exact ⟨rfl, hB.out⟩
theorem idx4 (k : Nat) (hk : k < 4) (w : World) : (Instr.index 119 (.agg (vrow 4 sideF)) (.int .i64 k)).run Tryd.prog w = .ok (.func (.func (sideId k)) #[] #[]) w := by
  have i0 : ∀ (a b c d : Value) (w : World), (Instr.index 119 (.agg #[a, b, c, d]) (.int .i64 0)).run Tryd.prog w = .ok a w := fun _ _ _ _ _ => by kernel_rfl
  have i1 : ∀ (a b c d : Value) (w : World), (Instr.index 119 (.agg #[a, b, c, d]) (.int .i64 1)).run Tryd.prog w = .ok b w := fun _ _ _ _ _ => by kernel_rfl
  have i2 : ∀ (a b c d : Value) (w : World), (Instr.index 119 (.agg #[a, b, c, d]) (.int .i64 2)).run Tryd.prog w = .ok c w := fun _ _ _ _ _ => by kernel_rfl
  have i3 : ∀ (a b c d : Value) (w : World), (Instr.index 119 (.agg #[a, b, c, d]) (.int .i64 3)).run Tryd.prog w = .ok d w := fun _ _ _ _ _ => by kernel_rfl
  have : k = 0 ∨ k = 1 ∨ k = 2 ∨ k = 3 := by omega
  rcases this with rfl | rfl | rfl | rfl
  · exact i0 _ _ _ _ w
  · exact i1 _ _ _ _ w
  · exact i2 _ _ _ _ w
  · exact i3 _ _ _ _ w
theorem World.heap_size_alloc_hid (w : World) (o : Obj) : Hid ((w.alloc o).heap.size = w.heap.size + 1) := by simp [Hid]
theorem side_in (k : Nat) (hk : k < 4) (a : Value) (w : World) : (callFunc (sideId k) #[a]).run Tryd.prog w = .ok (.enter (sideId k) #[a]) w := by
  have i0 : ∀ (a : Value) (w : World), (callFunc 71 #[a]).run Tryd.prog w = .ok (.enter 71 #[a]) w := fun _ _ => by kernel_rfl
  have i1 : ∀ (a : Value) (w : World), (callFunc 72 #[a]).run Tryd.prog w = .ok (.enter 72 #[a]) w := fun _ _ => by kernel_rfl
  have i2 : ∀ (a : Value) (w : World), (callFunc 73 #[a]).run Tryd.prog w = .ok (.enter 73 #[a]) w := fun _ _ => by kernel_rfl
  have i3 : ∀ (a : Value) (w : World), (callFunc 74 #[a]).run Tryd.prog w = .ok (.enter 74 #[a]) w := fun _ _ => by kernel_rfl
  have : k = 0 ∨ k = 1 ∨ k = 2 ∨ k = 3 := by omega
  rcases this with rfl | rfl | rfl | rfl
  · exact i0 a w
  · exact i1 a w
  · exact i2 a w
  · exact i3 a w
set_option maxHeartbeats 8000000 in
theorem nbr_nil (s : Sh) (x y : Nat) (w : World) (hx : x < 8) (hy : y < 8) (hok : okI s = true) : Calls Tryd.prog 64 #[.agg s.row, .slice none 0 0, .agg (vrow 2 (spAt x y))] w fun e w' => ∃ v, e = .returned v ∧ Owns w' (w.heap.size + 2) v (nbs s x y 4) ∧ Below w.heap.size w w' := by
  obtain ⟨i0, hi, hz0, hz1, hz2⟩ := info_parts info_spot
  have zs := zero_spot
  have HSD0 := Go.Lib.hid fun k w hk => side_any x y k w hx hy hk
  have HMk := Go.Lib.hid fun k h => mk_next (s := s) (x := x) (y := y) (k := k) hok h
  have HHS := Go.Lib.hid fun p q h => ok_has s hok p q h
  have HAS0 := fun p q w => has_any s p q w
  have HAS := Go.Lib.hid HAS0
  have WAX0 := fun u v hu hv w => waxed_any s u v hu hv w
  have WAX := Go.Lib.hid WAX0
  clear HAS0 WAX0 hok
  have hB : Hid (Below w.heap.size w ((w.alloc (.cells (vrow 266 s.at) 34)).alloc (.cells (vrow 2 (spAt x y)) 42))) := (((Below.refl w.heap.size w).alloc (by simp <;> omega) _).alloc (by simp <;> omega) _)
  have P : Hid (((w.alloc (.cells (vrow 266 s.at) 34)).alloc (.cells (vrow 2 (spAt x y)) 42)).heap[(w.heap.size)]? = some (.cells (vrow 266 s.at) 34)) := heap_past _ _ _ _ (by first | omega | (simp <;> omega)) (heap_at _ _ _ (by simp))
  have R : Hid (((w.alloc (.cells (vrow 266 s.at) 34)).alloc (.cells (vrow 2 (spAt x y)) 42)).heap[(w.heap.size + 1)]? = some (.cells (vrow 2 (spAt x y)) 42)) := heap_at _ _ _ (by simp)
  have O : Hid (((w.alloc (.cells (vrow 266 s.at) 34)).alloc (.cells (vrow 2 (spAt x y)) 42)).ownsRow (w.heap.size + 2) 42 2 (.slice none 0 0) 0 []) := Go.Lib.hid (World.ownsRow_nil _ _ _ _)
  have hsz : ((w.alloc (.cells (vrow 266 s.at) 34)).alloc (.cells (vrow 2 (spAt x y)) 42)).heap.size = w.heap.size + 2 := by simp
  obtain ⟨base, hbase⟩ : ∃ base, w.heap.size + 2 = base := ⟨_, rfl⟩
  rw [hbase] at O hsz ⊢
  go_enter Tryd.func64, Tryd.ntmps64
  go_wp2_with (first
    | (go_at_call 69; (refine (sides_any _).mono ?_; rintro e w1 ⟨rfl, hb⟩; have hGG := grown_next (grown_refl _ none) hb; replace O := Go.Lib.hid (O.out.kept hGG (by cases hv : Value.ownBlock _ <;> simp)); replace P := Go.Lib.hid (row_next hb P.out); replace R := Go.Lib.hid (row_next hb R.out); replace hB := Go.Lib.hid (below_next hB.out hb); have hs_w1 := hb.size; clear hb hGG)))
  obtain ⟨wo, hwo⟩ : ∃ wo : World, wo = w1 := ⟨_, rfl⟩
  rw [← hwo] at P R O hB hs_w1 ⊢
  clear hwo w1
  go_loopw [1, 11] (fun ov kv wr => ∃ k : Nat, k ≤ 4 ∧ kv = .int .i64 k ∧ wr.ownsRow base 42 2 ov ((nbs s x y k).length) (vals (nbs s x y k)) ∧ Below w.heap.size w wr ∧ base ≤ wr.heap.size ∧ wr.heap[w.heap.size]? = some (.cells (vrow 266 s.at) 34) ∧ wr.heap[w.heap.size + 1]? = some (.cells (vrow 2 (spAt x y)) 42)) (fun _ kv _ => 4 - (intOf kv).toNat)
  case atStart => exact ⟨0, by omega, rfl, by simpa [nbs, vals] using O.out, hB.out, by have hs := hs_w1; simp at hs; omega, P.out, R.out⟩
  case round =>
    clear P R O hB hsz hs_w1
    obtain ⟨k, hk, rfl, hO, hB, hbs, hP, hR⟩ := hrel
    have O := Go.Lib.hid hO; have P := Go.Lib.hid hP; have R := Go.Lib.hid hR
    replace hB := Go.Lib.hid hB
    clear hO hP hR
    have nbd := nbs_len s x y k
    have hvs : ∀ p q, (vrow 2 (spAt p q)).size = 2 := fun _ _ => vrow_size _ _
    by_cases hlt : k < 4
    · have hkd : decide ((k : Int) < 4) = true := by simp; omega
      have hmk := HMk.out k
      have HSD := Go.Lib.hid fun w => HSD0.out k w hlt
      have hix := fun w => idx4 k hlt w
      have hcf := fun a w => side_in k hlt a w
      have hst : nbs s x y (k + 1) = nbs s x y k ++ (if freeB s (nextX x k) (nextY y k) then [mk8 (nextX x k).toNat (nextY y k).toNat] else []) := rfl
      have HH0 := fun w => HAS.out (nextX x k) (nextY y k) w
      have hfr : freeB s (nextX x k) (nextY y k) = (hasB s (nextX x k) (nextY y k) && !waxB s (nextX x k).toNat (nextY y k).toNat) := rfl
      have HHS1 := HHS.out (nextX x k) (nextY y k)
      generalize nextX x k = p at *
      generalize nextY y k = q at *
      have HST := Go.Lib.hid hst
      clear hst
      cases hh : hasB s p q
      · have HH := Go.Lib.hid HH0
        rw [hh] at HH
        rw [hh, Bool.false_and] at hfr
        rw [hfr] at HST
        clear HH0 hmk hfr hh HHS1
        go_wp2_with (first
          | (refine wpList_loadall rfl 42 (.tmp 5) rfl _ rfl 2 (spAt x y) 42 _ Tryd.underlying42 rfl size_spot R.out ?_)
          | (refine wpList_loadall rfl 42 (.tmp 9) rfl _ rfl 2 (spAt p q) 42 _ Tryd.underlying42 rfl size_spot WA.out ?_)
          | (refine (HSD.out _).mono ?_; rintro e w1 ⟨rfl, hb⟩; have hGG := grown_next (grown_refl wr none) hb; replace O := Go.Lib.hid (O.out.kept hGG (by cases hv : Value.ownBlock _ <;> simp)); replace P := Go.Lib.hid (row_next hb P.out); replace R := Go.Lib.hid (row_next hb R.out); replace hB := Go.Lib.hid (below_next hB.out hb); have hs_w1 := hb.size; clear hb hGG)
          | (refine wpList_storeall rfl 42 (.tmp 9) (.tmp 16) rfl _ rfl 2 (spAt 0 0) (spAt p q) rfl 42 size_spot (heap_at _ _ _ rfl) (fun i _ => spAt_one _ _ i) ?_; rw [setRow_at _ _ _ _ _ rfl]; have WA := Go.Lib.hid (heap_at w1 (.cells (vrow 2 (spAt p q)) 42) _ rfl); have nP := row_lt P.out; have nR := row_lt R.out; replace P := Go.Lib.hid (heap_past _ (.cells (vrow 2 (spAt p q)) 42) _ _ nP P.out); replace R := Go.Lib.hid (heap_past _ (.cells (vrow 2 (spAt p q)) 42) _ _ nR R.out); replace O := Go.Lib.hid (O.out.alloc (.cells (vrow 2 (spAt p q)) 42)); replace hB := Go.Lib.hid (hB.out.alloc (hB.out.size) (.cells (vrow 2 (spAt p q)) 42)); generalize hbw : w1.heap.size = bw at WA nP nR hs_w1 ⊢; generalize hW1 : w1.alloc _ = W1 at R P O WA hB ⊢; have hsW : Hid (W1.heap.size = bw + 1) := (by rw [← hW1, ← hbw]; exact World.heap_size_alloc_hid _ _); clear hbw hW1)
          | (refine list_at 17 rfl ?_; intro W hW; rw [hW] at hB O P WA R hsW; clear hW; have P' := Go.Lib.hid (cls_row' P.out); have WA' := Go.Lib.hid (cls_row' WA.out); (repeat (first | go_big_quiet_skip | (refine wpQuiet_loadmid 34 _ rfl (by first | exact want_n rfl | exact want_g _ _ _ rfl rfl rfl) (w.heap.size) _ rfl 266 266 s.at _ rw_sheet size_sheet P'.out (by omega) ?_; rw [sh_row]; simp only [Act.put, List.setIfInBounds_toArray, List.set_cons_succ, List.set_cons_zero]) | (refine wpQuiet_loadmid 42 _ rfl (by first | exact want_n rfl | exact want_g _ _ _ rfl rfl rfl) bw _ rfl 2 2 (spAt p q) _ rw_spot size_spot WA'.out (by omega) ?_; rw [sp_row]; simp only [Act.put, List.setIfInBounds_toArray, List.set_cons_succ, List.set_cons_zero]) | go_big_quiet_step ((go_at_call 67; exact cls_call _ (fun w hw => HH.out w))))); refine wpQuiet_nil ?_; intro w3 hb; clear P' WA'; have hGG := grown_next (grown_refl W none) hb; replace O := Go.Lib.hid (O.out.kept hGG (by cases hv : Value.ownBlock _ <;> simp)); replace P := Go.Lib.hid (row_next hb P.out); replace R := Go.Lib.hid (row_next hb R.out); replace WA := Go.Lib.hid (row_next hb WA.out); replace hB := Go.Lib.hid (below_next hB.out hb); have hs_w3 := hb.size; clear hb hGG))
        go_roundw
        case rel => exact ⟨k + 1, by omega, by go_num, by rw [HST.out]; simpa using O.out, hB.out, by have h1 := hsW.out; have h2 := hs_w1; have h3 := hs_w3; omega, P.out, R.out⟩
        case measure => simp [intOf]; omega
      · have HH := Go.Lib.hid HH0
        rw [hh] at HH
        obtain ⟨u, v, rfl, rfl, hu8, hv8⟩ := HHS1 hh
        have HWX0 := fun w => WAX.out u v hu8 hv8 w
        rw [hh, Bool.true_and, Int.toNat_natCast, Int.toNat_natCast] at hfr
        clear HH0 hh HHS1
        cases hwx : waxB s u v
        · have HWX := Go.Lib.hid HWX0
          rw [hwx] at HWX hfr
          obtain ⟨hm1, hm2⟩ := hmk hfr
          rw [hfr] at HST
          clear hmk hfr HWX0 hwx
          go_wp2_with (first
          | (refine wpList_loadall rfl 42 (.tmp 5) rfl _ rfl 2 (spAt x y) 42 _ Tryd.underlying42 rfl size_spot R.out ?_)
          | (refine wpList_loadall rfl 42 (.tmp 9) rfl _ rfl 2 (spAt u v) 42 _ Tryd.underlying42 rfl size_spot WA.out ?_)
          | (refine (HSD.out _).mono ?_; rintro e w1 ⟨rfl, hb⟩; have hGG := grown_next (grown_refl wr none) hb; replace O := Go.Lib.hid (O.out.kept hGG (by cases hv : Value.ownBlock _ <;> simp)); replace P := Go.Lib.hid (row_next hb P.out); replace R := Go.Lib.hid (row_next hb R.out); replace hB := Go.Lib.hid (below_next hB.out hb); have hs_w1 := hb.size; clear hb hGG)
          | (refine wpList_storeall rfl 42 (.tmp 9) (.tmp 16) rfl _ rfl 2 (spAt 0 0) (spAt u v) rfl 42 size_spot (heap_at _ _ _ rfl) (fun i _ => spAt_one _ _ i) ?_; rw [setRow_at _ _ _ _ _ rfl]; have WA := Go.Lib.hid (heap_at w1 (.cells (vrow 2 (spAt u v)) 42) _ rfl); have nP := row_lt P.out; have nR := row_lt R.out; replace P := Go.Lib.hid (heap_past _ (.cells (vrow 2 (spAt u v)) 42) _ _ nP P.out); replace R := Go.Lib.hid (heap_past _ (.cells (vrow 2 (spAt u v)) 42) _ _ nR R.out); replace O := Go.Lib.hid (O.out.alloc (.cells (vrow 2 (spAt u v)) 42)); replace hB := Go.Lib.hid (hB.out.alloc (hB.out.size) (.cells (vrow 2 (spAt u v)) 42)); generalize hbw : w1.heap.size = bw at WA nP nR hs_w1 ⊢; generalize hW1 : w1.alloc _ = W1 at R P O WA hB ⊢; have hsW : Hid (W1.heap.size = bw + 1) := (by rw [← hW1, ← hbw]; exact World.heap_size_alloc_hid _ _); clear hbw hW1)
          | (refine list_at 17 rfl ?_; intro W hW; rw [hW] at hB O P WA R hsW; clear hW; have P' := Go.Lib.hid (cls_row' P.out); have WA' := Go.Lib.hid (cls_row' WA.out); (repeat (first | go_big_quiet_skip | (refine wpQuiet_loadmid 34 _ rfl (by first | exact want_n rfl | exact want_g _ _ _ rfl rfl rfl) (w.heap.size) _ rfl 266 266 s.at _ rw_sheet size_sheet P'.out (by omega) ?_; rw [sh_row]; simp only [Act.put, List.setIfInBounds_toArray, List.set_cons_succ, List.set_cons_zero]) | (refine wpQuiet_loadmid 42 _ rfl (by first | exact want_n rfl | exact want_g _ _ _ rfl rfl rfl) bw _ rfl 2 2 (spAt u v) _ rw_spot size_spot WA'.out (by omega) ?_; rw [sp_row]; simp only [Act.put, List.setIfInBounds_toArray, List.set_cons_succ, List.set_cons_zero]) | go_big_quiet_step (first | (go_at_call 67; exact cls_call _ (fun w hw => HH.out w)) | (go_at_call 63; exact cls_call _ (fun w hw => HWX.out w))))); refine wpQuiet_nil ?_; intro w3 hb; clear P' WA'; have hGG := grown_next (grown_refl W none) hb; replace O := Go.Lib.hid (O.out.kept hGG (by cases hv : Value.ownBlock _ <;> simp)); replace P := Go.Lib.hid (row_next hb P.out); replace R := Go.Lib.hid (row_next hb R.out); replace WA := Go.Lib.hid (row_next hb WA.out); replace hB := Go.Lib.hid (below_next hB.out hb); have hs_w3 := hb.size; clear hb hGG)
          | (at_builtin; refine wpList_append_own _ rfl (.tmp 26) (.tmp 28) 46 rfl base 42 i0 (.agg #[.int .i8 0, .int .i8 0]) 2 2 Tryd.underlying46 hi hz0 hz1 hz2 rfl (by decide) _ _ _ rfl (O.out.alloc _) ⟨w3.heap.size, 0, none⟩ 1 1 [.int .i8 u, .int .i8 v] rfl rfl (World.news_of_block (heap_at _ _ _ rfl)) (by simp [Value.oneCell']) (by simp only [maxLen]; omega) (by omega) (by have h1 := hsW.out; simp; omega) ?_; intro v' w4 hown' hgrow _))
          have B1 : Below w.heap.size w w4 := (hB.out.alloc hB.out.size _).grown hgrow (by have h1 := hsW.out; simp; omega) (fun q hq => by have := (O.out.lt q hq).1; omega)
          have R1 : w4.heap[w.heap.size + 1]? = some (.cells (vrow 2 (spAt x y)) 42) := (hgrow.block (w.heap.size + 1) (by have := row_lt R.out; simp; omega) (fun e => by have := (O.out.lt (w.heap.size + 1) e.symm).1; omega)).trans (heap_past _ _ _ _ (row_lt R.out) R.out)
          have P1 : w4.heap[w.heap.size]? = some (.cells (vrow 266 s.at) 34) := (hgrow.block w.heap.size (by have := row_lt P.out; simp; omega) (fun e => by have := (O.out.lt w.heap.size e.symm).1; omega)).trans (heap_past _ _ _ _ (row_lt P.out) P.out)
          have hval : vals (nbs s x y (k + 1)) = vals (nbs s x y k) ++ [.int .i8 u, .int .i8 v] := by rw [HST.out, if_pos (by simp), vals_app, vals_one, hm1, hm2]
          have hlen : (nbs s x y (k + 1)).length = (nbs s x y k).length + 1 := by rw [HST.out, if_pos (by simp), List.length_append]; rfl
          go_roundw
          case rel => exact ⟨k + 1, by omega, by go_num, by rw [hval, hlen]; exact hown', B1, by have h1 := hsW.out; have h4 := hgrow.size; simp at h4; omega, P1, R1⟩
          case measure => simp [intOf]; omega
        · have HWX := Go.Lib.hid HWX0
          rw [hwx] at HWX hfr
          rw [show freeB s u v = false from hfr] at HST
          clear hmk hfr HWX0 hwx
          go_wp2_with (first
          | (refine wpList_loadall rfl 42 (.tmp 5) rfl _ rfl 2 (spAt x y) 42 _ Tryd.underlying42 rfl size_spot R.out ?_)
          | (refine wpList_loadall rfl 42 (.tmp 9) rfl _ rfl 2 (spAt u v) 42 _ Tryd.underlying42 rfl size_spot WA.out ?_)
          | (refine (HSD.out _).mono ?_; rintro e w1 ⟨rfl, hb⟩; have hGG := grown_next (grown_refl wr none) hb; replace O := Go.Lib.hid (O.out.kept hGG (by cases hv : Value.ownBlock _ <;> simp)); replace P := Go.Lib.hid (row_next hb P.out); replace R := Go.Lib.hid (row_next hb R.out); replace hB := Go.Lib.hid (below_next hB.out hb); have hs_w1 := hb.size; clear hb hGG)
          | (refine wpList_storeall rfl 42 (.tmp 9) (.tmp 16) rfl _ rfl 2 (spAt 0 0) (spAt u v) rfl 42 size_spot (heap_at _ _ _ rfl) (fun i _ => spAt_one _ _ i) ?_; rw [setRow_at _ _ _ _ _ rfl]; have WA := Go.Lib.hid (heap_at w1 (.cells (vrow 2 (spAt u v)) 42) _ rfl); have nP := row_lt P.out; have nR := row_lt R.out; replace P := Go.Lib.hid (heap_past _ (.cells (vrow 2 (spAt u v)) 42) _ _ nP P.out); replace R := Go.Lib.hid (heap_past _ (.cells (vrow 2 (spAt u v)) 42) _ _ nR R.out); replace O := Go.Lib.hid (O.out.alloc (.cells (vrow 2 (spAt u v)) 42)); replace hB := Go.Lib.hid (hB.out.alloc (hB.out.size) (.cells (vrow 2 (spAt u v)) 42)); generalize hbw : w1.heap.size = bw at WA nP nR hs_w1 ⊢; generalize hW1 : w1.alloc _ = W1 at R P O WA hB ⊢; have hsW : Hid (W1.heap.size = bw + 1) := (by rw [← hW1, ← hbw]; exact World.heap_size_alloc_hid _ _); clear hbw hW1)
          | (refine list_at 17 rfl ?_; intro W hW; rw [hW] at hB O P WA R hsW; clear hW; have P' := Go.Lib.hid (cls_row' P.out); have WA' := Go.Lib.hid (cls_row' WA.out); (repeat (first | go_big_quiet_skip | (refine wpQuiet_loadmid 34 _ rfl (by first | exact want_n rfl | exact want_g _ _ _ rfl rfl rfl) (w.heap.size) _ rfl 266 266 s.at _ rw_sheet size_sheet P'.out (by omega) ?_; rw [sh_row]; simp only [Act.put, List.setIfInBounds_toArray, List.set_cons_succ, List.set_cons_zero]) | (refine wpQuiet_loadmid 42 _ rfl (by first | exact want_n rfl | exact want_g _ _ _ rfl rfl rfl) bw _ rfl 2 2 (spAt u v) _ rw_spot size_spot WA'.out (by omega) ?_; rw [sp_row]; simp only [Act.put, List.setIfInBounds_toArray, List.set_cons_succ, List.set_cons_zero]) | go_big_quiet_step (first | (go_at_call 67; exact cls_call _ (fun w hw => HH.out w)) | (go_at_call 63; exact cls_call _ (fun w hw => HWX.out w))))); refine wpQuiet_nil ?_; intro w3 hb; clear P' WA'; have hGG := grown_next (grown_refl W none) hb; replace O := Go.Lib.hid (O.out.kept hGG (by cases hv : Value.ownBlock _ <;> simp)); replace P := Go.Lib.hid (row_next hb P.out); replace R := Go.Lib.hid (row_next hb R.out); replace WA := Go.Lib.hid (row_next hb WA.out); replace hB := Go.Lib.hid (below_next hB.out hb); have hs_w3 := hb.size; clear hb hGG))
          go_roundw
          case rel => exact ⟨k + 1, by omega, by go_num, by rw [HST.out]; simpa using O.out, hB.out, by have h1 := hsW.out; have h2 := hs_w1; have h3 := hs_w3; omega, P.out, R.out⟩
          case measure => simp [intOf]; omega
    · obtain rfl : k = 4 := by omega
      have hkd : decide (((4 : Nat) : Int) < 4) = false := by simp
      go_wp2
      go_ret
      exact ⟨_, rfl, ⟨O.out⟩, hB.out⟩
set_option maxHeartbeats 8000000 in
theorem nbr_fits (s : Sh) (x y : Nat) (w : World) (hx : x < 8) (hy : y < 8) (hok : okI s = true) (base g cap n0 : Nat) (xs : List Value) (hO : w.ownsRow base 42 2 (.slice (some ⟨g, 0, none⟩) n0 cap) n0 xs) (hroom : n0 + 4 ≤ cap) : Calls Tryd.prog 64 #[.agg s.row, .slice (some ⟨g, 0, none⟩) n0 cap, .agg (vrow 2 (spAt x y))] w fun e w' => e = .returned (.slice (some ⟨g, 0, none⟩) (n0 + (nbs s x y 4).length) cap) ∧ w'.ownsRow base 42 2 (.slice (some ⟨g, 0, none⟩) (n0 + (nbs s x y 4).length) cap) (n0 + (nbs s x y 4).length) (xs ++ vals (nbs s x y 4)) ∧ w.grownBy w' (some g) := by
  obtain ⟨i0, hi, hz0, hz1, hz2⟩ := info_parts info_spot
  have zs := zero_spot
  have HSD0 := Go.Lib.hid fun k w hk => side_any x y k w hx hy hk
  have HMk := Go.Lib.hid fun k h => mk_next (s := s) (x := x) (y := y) (k := k) hok h
  have HHS := Go.Lib.hid fun p q h => ok_has s hok p q h
  have HAS0 := fun p q w => has_any s p q w
  have HAS := Go.Lib.hid HAS0
  have WAX0 := fun u v hu hv w => waxed_any s u v hu hv w
  have WAX := Go.Lib.hid WAX0
  clear HAS0 WAX0 hok
  have hG : Hid (w.grownBy ((w.alloc (.cells (vrow 266 s.at) 34)).alloc (.cells (vrow 2 (spAt x y)) 42)) (some g)) := grown_alloc (grown_alloc (grown_refl w _) _) _
  have P : Hid (((w.alloc (.cells (vrow 266 s.at) 34)).alloc (.cells (vrow 2 (spAt x y)) 42)).heap[(w.heap.size)]? = some (.cells (vrow 266 s.at) 34)) := heap_past _ _ _ _ (by first | omega | (simp <;> omega)) (heap_at _ _ _ (by simp))
  have R : Hid (((w.alloc (.cells (vrow 266 s.at) 34)).alloc (.cells (vrow 2 (spAt x y)) 42)).heap[(w.heap.size + 1)]? = some (.cells (vrow 2 (spAt x y)) 42)) := heap_at _ _ _ (by simp)
  have ngw : base ≤ g ∧ g < w.heap.size := hO.lt g rfl
  have O := Go.Lib.hid ((hO.alloc (.cells (vrow 266 s.at) 34)).alloc (.cells (vrow 2 (spAt x y)) 42))
  clear hO
  go_enter Tryd.func64, Tryd.ntmps64
  go_wp2_with (first
    | (go_at_call 69; (refine (sides_any _).mono ?_; rintro e w1 ⟨rfl, hb⟩; have hGG := grown_next (grown_refl _ none) hb; replace O := Go.Lib.hid (O.out.kept hGG (by cases hv : Value.ownBlock _ <;> simp)); replace P := Go.Lib.hid (row_next hb P.out); replace R := Go.Lib.hid (row_next hb R.out); replace hG := Go.Lib.hid (grown_next hG.out hb); have hs_w1 := hb.size; clear hb hGG)))
  obtain ⟨wo, hwo⟩ : ∃ wo : World, wo = w1 := ⟨_, rfl⟩
  rw [← hwo] at P R O hG hs_w1 ⊢
  clear hwo w1
  go_loopw [1, 11] (fun ov kv wr => ∃ k : Nat, k ≤ 4 ∧ kv = .int .i64 k ∧ ov = .slice (some ⟨g, 0, none⟩) (n0 + (nbs s x y k).length) cap ∧ wr.ownsRow base 42 2 ov (n0 + (nbs s x y k).length) (xs ++ vals (nbs s x y k)) ∧ w.grownBy wr (some g) ∧ wr.heap[w.heap.size]? = some (.cells (vrow 266 s.at) 34) ∧ wr.heap[w.heap.size + 1]? = some (.cells (vrow 2 (spAt x y)) 42)) (fun _ kv _ => 4 - (intOf kv).toNat)
  case atStart => exact ⟨0, by omega, rfl, rfl, by simpa [nbs, vals] using O.out, hG.out, P.out, R.out⟩
  case round =>
    clear P R O hG hs_w1
    obtain ⟨k, hk, rfl, rfl, hO, hG, hP, hR⟩ := hrel
    have O := Go.Lib.hid hO; have P := Go.Lib.hid hP; have R := Go.Lib.hid hR
    replace hG := Go.Lib.hid hG
    clear hO hP hR
    have nbd := nbs_len s x y k
    have hvs : ∀ p q, (vrow 2 (spAt p q)).size = 2 := fun _ _ => vrow_size _ _
    by_cases hlt : k < 4
    · have hkd : decide ((k : Int) < 4) = true := by simp; omega
      have hmk := HMk.out k
      have HSD := Go.Lib.hid fun w => HSD0.out k w hlt
      have hix := fun w => idx4 k hlt w
      have hcf := fun a w => side_in k hlt a w
      have hst : nbs s x y (k + 1) = nbs s x y k ++ (if freeB s (nextX x k) (nextY y k) then [mk8 (nextX x k).toNat (nextY y k).toNat] else []) := rfl
      have HH0 := fun w => HAS.out (nextX x k) (nextY y k) w
      have hfr : freeB s (nextX x k) (nextY y k) = (hasB s (nextX x k) (nextY y k) && !waxB s (nextX x k).toNat (nextY y k).toNat) := rfl
      have HHS1 := HHS.out (nextX x k) (nextY y k)
      generalize nextX x k = p at *
      generalize nextY y k = q at *
      have HST := Go.Lib.hid hst
      clear hst
      cases hh : hasB s p q
      · have HH := Go.Lib.hid HH0
        rw [hh] at HH
        rw [hh, Bool.false_and] at hfr
        rw [hfr] at HST
        clear HH0 hmk hfr hh HHS1
        go_wp2_with (first
          | (refine wpList_loadall rfl 42 (.tmp 5) rfl _ rfl 2 (spAt x y) 42 _ Tryd.underlying42 rfl size_spot R.out ?_)
          | (refine wpList_loadall rfl 42 (.tmp 9) rfl _ rfl 2 (spAt p q) 42 _ Tryd.underlying42 rfl size_spot WA.out ?_)
          | (refine (HSD.out _).mono ?_; rintro e w1 ⟨rfl, hb⟩; have hGG := grown_next (grown_refl wr none) hb; replace O := Go.Lib.hid (O.out.kept hGG (by cases hv : Value.ownBlock _ <;> simp)); replace P := Go.Lib.hid (row_next hb P.out); replace R := Go.Lib.hid (row_next hb R.out); replace hG := Go.Lib.hid (grown_next hG.out hb); have hs_w1 := hb.size; clear hb hGG)
          | (refine wpList_storeall rfl 42 (.tmp 9) (.tmp 16) rfl _ rfl 2 (spAt 0 0) (spAt p q) rfl 42 size_spot (heap_at _ _ _ rfl) (fun i _ => spAt_one _ _ i) ?_; rw [setRow_at _ _ _ _ _ rfl]; have WA := Go.Lib.hid (heap_at w1 (.cells (vrow 2 (spAt p q)) 42) _ rfl); have nP := row_lt P.out; have nR := row_lt R.out; replace P := Go.Lib.hid (heap_past _ (.cells (vrow 2 (spAt p q)) 42) _ _ nP P.out); replace R := Go.Lib.hid (heap_past _ (.cells (vrow 2 (spAt p q)) 42) _ _ nR R.out); replace O := Go.Lib.hid (O.out.alloc (.cells (vrow 2 (spAt p q)) 42)); replace hG := Go.Lib.hid (grown_alloc hG.out (.cells (vrow 2 (spAt p q)) 42)); generalize hbw : w1.heap.size = bw at WA nP nR hs_w1 ⊢; generalize hW1 : w1.alloc _ = W1 at R P O WA hG ⊢; have hsW : Hid (W1.heap.size = bw + 1) := (by rw [← hW1, ← hbw]; exact World.heap_size_alloc_hid _ _); clear hbw hW1)
          | (refine list_at 17 rfl ?_; intro W hW; rw [hW] at hG O P WA R hsW; clear hW; have P' := Go.Lib.hid (cls_row' P.out); have WA' := Go.Lib.hid (cls_row' WA.out); (repeat (first | go_big_quiet_skip | (refine wpQuiet_loadmid 34 _ rfl (by first | exact want_n rfl | exact want_g _ _ _ rfl rfl rfl) (w.heap.size) _ rfl 266 266 s.at _ rw_sheet size_sheet P'.out (by omega) ?_; rw [sh_row]; simp only [Act.put, List.setIfInBounds_toArray, List.set_cons_succ, List.set_cons_zero]) | (refine wpQuiet_loadmid 42 _ rfl (by first | exact want_n rfl | exact want_g _ _ _ rfl rfl rfl) bw _ rfl 2 2 (spAt p q) _ rw_spot size_spot WA'.out (by omega) ?_; rw [sp_row]; simp only [Act.put, List.setIfInBounds_toArray, List.set_cons_succ, List.set_cons_zero]) | go_big_quiet_step ((go_at_call 67; exact cls_call _ (fun w hw => HH.out w))))); refine wpQuiet_nil ?_; intro w3 hb; clear P' WA'; have hGG := grown_next (grown_refl W none) hb; replace O := Go.Lib.hid (O.out.kept hGG (by cases hv : Value.ownBlock _ <;> simp)); replace P := Go.Lib.hid (row_next hb P.out); replace R := Go.Lib.hid (row_next hb R.out); replace WA := Go.Lib.hid (row_next hb WA.out); replace hG := Go.Lib.hid (grown_next hG.out hb); have hs_w3 := hb.size; clear hb hGG))
        go_roundw
        case rel => exact ⟨k + 1, by omega, by go_num, by rw [HST.out]; simp, by rw [HST.out]; simpa using O.out, hG.out, P.out, R.out⟩
        case measure => simp [intOf]; omega
      · have HH := Go.Lib.hid HH0
        rw [hh] at HH
        obtain ⟨u, v, rfl, rfl, hu8, hv8⟩ := HHS1 hh
        have HWX0 := fun w => WAX.out u v hu8 hv8 w
        rw [hh, Bool.true_and, Int.toNat_natCast, Int.toNat_natCast] at hfr
        clear HH0 hh HHS1
        cases hwx : waxB s u v
        · have HWX := Go.Lib.hid HWX0
          rw [hwx] at HWX hfr
          obtain ⟨hm1, hm2⟩ := hmk hfr
          rw [hfr] at HST
          clear hmk hfr HWX0 hwx
          go_wp2_with (first
          | (refine wpList_loadall rfl 42 (.tmp 5) rfl _ rfl 2 (spAt x y) 42 _ Tryd.underlying42 rfl size_spot R.out ?_)
          | (refine wpList_loadall rfl 42 (.tmp 9) rfl _ rfl 2 (spAt u v) 42 _ Tryd.underlying42 rfl size_spot WA.out ?_)
          | (refine (HSD.out _).mono ?_; rintro e w1 ⟨rfl, hb⟩; have hGG := grown_next (grown_refl wr none) hb; replace O := Go.Lib.hid (O.out.kept hGG (by cases hv : Value.ownBlock _ <;> simp)); replace P := Go.Lib.hid (row_next hb P.out); replace R := Go.Lib.hid (row_next hb R.out); replace hG := Go.Lib.hid (grown_next hG.out hb); have hs_w1 := hb.size; clear hb hGG)
          | (refine wpList_storeall rfl 42 (.tmp 9) (.tmp 16) rfl _ rfl 2 (spAt 0 0) (spAt u v) rfl 42 size_spot (heap_at _ _ _ rfl) (fun i _ => spAt_one _ _ i) ?_; rw [setRow_at _ _ _ _ _ rfl]; have WA := Go.Lib.hid (heap_at w1 (.cells (vrow 2 (spAt u v)) 42) _ rfl); have nP := row_lt P.out; have nR := row_lt R.out; replace P := Go.Lib.hid (heap_past _ (.cells (vrow 2 (spAt u v)) 42) _ _ nP P.out); replace R := Go.Lib.hid (heap_past _ (.cells (vrow 2 (spAt u v)) 42) _ _ nR R.out); replace O := Go.Lib.hid (O.out.alloc (.cells (vrow 2 (spAt u v)) 42)); replace hG := Go.Lib.hid (grown_alloc hG.out (.cells (vrow 2 (spAt u v)) 42)); generalize hbw : w1.heap.size = bw at WA nP nR hs_w1 ⊢; generalize hW1 : w1.alloc _ = W1 at R P O WA hG ⊢; have hsW : Hid (W1.heap.size = bw + 1) := (by rw [← hW1, ← hbw]; exact World.heap_size_alloc_hid _ _); clear hbw hW1)
          | (refine list_at 17 rfl ?_; intro W hW; rw [hW] at hG O P WA R hsW; clear hW; have P' := Go.Lib.hid (cls_row' P.out); have WA' := Go.Lib.hid (cls_row' WA.out); (repeat (first | go_big_quiet_skip | (refine wpQuiet_loadmid 34 _ rfl (by first | exact want_n rfl | exact want_g _ _ _ rfl rfl rfl) (w.heap.size) _ rfl 266 266 s.at _ rw_sheet size_sheet P'.out (by omega) ?_; rw [sh_row]; simp only [Act.put, List.setIfInBounds_toArray, List.set_cons_succ, List.set_cons_zero]) | (refine wpQuiet_loadmid 42 _ rfl (by first | exact want_n rfl | exact want_g _ _ _ rfl rfl rfl) bw _ rfl 2 2 (spAt u v) _ rw_spot size_spot WA'.out (by omega) ?_; rw [sp_row]; simp only [Act.put, List.setIfInBounds_toArray, List.set_cons_succ, List.set_cons_zero]) | go_big_quiet_step (first | (go_at_call 67; exact cls_call _ (fun w hw => HH.out w)) | (go_at_call 63; exact cls_call _ (fun w hw => HWX.out w))))); refine wpQuiet_nil ?_; intro w3 hb; clear P' WA'; have hGG := grown_next (grown_refl W none) hb; replace O := Go.Lib.hid (O.out.kept hGG (by cases hv : Value.ownBlock _ <;> simp)); replace P := Go.Lib.hid (row_next hb P.out); replace R := Go.Lib.hid (row_next hb R.out); replace WA := Go.Lib.hid (row_next hb WA.out); replace hG := Go.Lib.hid (grown_next hG.out hb); have hs_w3 := hb.size; clear hb hGG)
          | (at_builtin; refine wpList_append_fits _ rfl (.tmp 26) (.tmp 28) 46 rfl base 42 i0 2 Tryd.underlying46 hi hz1 g _ cap _ rfl (O.out.alloc _) ⟨w3.heap.size, 0, none⟩ 1 1 [.int .i8 u, .int .i8 v] rfl rfl (World.news_of_block (heap_at _ _ _ rfl)) (by simp [Value.oneCell']) (by omega) ?_; intro w4 hown' hgrow))
          have G0 := grown_alloc hG.out (.cells #[.int .i8 u, .int .i8 v] 42)
          have G1 : w.grownBy w4 (some g) := ⟨hgrow.os.trans G0.os, hgrow.tape.trans G0.tape, hgrow.output.trans G0.output, Nat.le_trans G0.size hgrow.size, fun k hk hne => (hgrow.block k (Nat.lt_of_lt_of_le hk G0.size) hne).trans (G0.block k hk hne)⟩
          have R1 : w4.heap[w.heap.size + 1]? = some (.cells (vrow 2 (spAt x y)) 42) := (hgrow.block (w.heap.size + 1) (by have := row_lt R.out; simp; omega) (by simp; omega)).trans (heap_past _ _ _ _ (row_lt R.out) R.out)
          have P1 : w4.heap[w.heap.size]? = some (.cells (vrow 266 s.at) 34) := (hgrow.block w.heap.size (by have := row_lt P.out; simp; omega) (by simp; omega)).trans (heap_past _ _ _ _ (row_lt P.out) P.out)
          have hval : vals (nbs s x y (k + 1)) = vals (nbs s x y k) ++ [.int .i8 u, .int .i8 v] := by rw [HST.out, if_pos (by simp), vals_app, vals_one, hm1, hm2]
          have hlen : (nbs s x y (k + 1)).length = (nbs s x y k).length + 1 := by rw [HST.out, if_pos (by simp), List.length_append]; rfl
          go_roundw
          case rel => exact ⟨k + 1, by omega, by go_num, by rw [hlen, Nat.add_assoc], by rw [hval, hlen, ← List.append_assoc]; exact hown', G1, P1, R1⟩
          case measure => simp [intOf]; omega
        · have HWX := Go.Lib.hid HWX0
          rw [hwx] at HWX hfr
          rw [show freeB s u v = false from hfr] at HST
          clear hmk hfr HWX0 hwx
          go_wp2_with (first
          | (refine wpList_loadall rfl 42 (.tmp 5) rfl _ rfl 2 (spAt x y) 42 _ Tryd.underlying42 rfl size_spot R.out ?_)
          | (refine wpList_loadall rfl 42 (.tmp 9) rfl _ rfl 2 (spAt u v) 42 _ Tryd.underlying42 rfl size_spot WA.out ?_)
          | (refine (HSD.out _).mono ?_; rintro e w1 ⟨rfl, hb⟩; have hGG := grown_next (grown_refl wr none) hb; replace O := Go.Lib.hid (O.out.kept hGG (by cases hv : Value.ownBlock _ <;> simp)); replace P := Go.Lib.hid (row_next hb P.out); replace R := Go.Lib.hid (row_next hb R.out); replace hG := Go.Lib.hid (grown_next hG.out hb); have hs_w1 := hb.size; clear hb hGG)
          | (refine wpList_storeall rfl 42 (.tmp 9) (.tmp 16) rfl _ rfl 2 (spAt 0 0) (spAt u v) rfl 42 size_spot (heap_at _ _ _ rfl) (fun i _ => spAt_one _ _ i) ?_; rw [setRow_at _ _ _ _ _ rfl]; have WA := Go.Lib.hid (heap_at w1 (.cells (vrow 2 (spAt u v)) 42) _ rfl); have nP := row_lt P.out; have nR := row_lt R.out; replace P := Go.Lib.hid (heap_past _ (.cells (vrow 2 (spAt u v)) 42) _ _ nP P.out); replace R := Go.Lib.hid (heap_past _ (.cells (vrow 2 (spAt u v)) 42) _ _ nR R.out); replace O := Go.Lib.hid (O.out.alloc (.cells (vrow 2 (spAt u v)) 42)); replace hG := Go.Lib.hid (grown_alloc hG.out (.cells (vrow 2 (spAt u v)) 42)); generalize hbw : w1.heap.size = bw at WA nP nR hs_w1 ⊢; generalize hW1 : w1.alloc _ = W1 at R P O WA hG ⊢; have hsW : Hid (W1.heap.size = bw + 1) := (by rw [← hW1, ← hbw]; exact World.heap_size_alloc_hid _ _); clear hbw hW1)
          | (refine list_at 17 rfl ?_; intro W hW; rw [hW] at hG O P WA R hsW; clear hW; have P' := Go.Lib.hid (cls_row' P.out); have WA' := Go.Lib.hid (cls_row' WA.out); (repeat (first | go_big_quiet_skip | (refine wpQuiet_loadmid 34 _ rfl (by first | exact want_n rfl | exact want_g _ _ _ rfl rfl rfl) (w.heap.size) _ rfl 266 266 s.at _ rw_sheet size_sheet P'.out (by omega) ?_; rw [sh_row]; simp only [Act.put, List.setIfInBounds_toArray, List.set_cons_succ, List.set_cons_zero]) | (refine wpQuiet_loadmid 42 _ rfl (by first | exact want_n rfl | exact want_g _ _ _ rfl rfl rfl) bw _ rfl 2 2 (spAt u v) _ rw_spot size_spot WA'.out (by omega) ?_; rw [sp_row]; simp only [Act.put, List.setIfInBounds_toArray, List.set_cons_succ, List.set_cons_zero]) | go_big_quiet_step (first | (go_at_call 67; exact cls_call _ (fun w hw => HH.out w)) | (go_at_call 63; exact cls_call _ (fun w hw => HWX.out w))))); refine wpQuiet_nil ?_; intro w3 hb; clear P' WA'; have hGG := grown_next (grown_refl W none) hb; replace O := Go.Lib.hid (O.out.kept hGG (by cases hv : Value.ownBlock _ <;> simp)); replace P := Go.Lib.hid (row_next hb P.out); replace R := Go.Lib.hid (row_next hb R.out); replace WA := Go.Lib.hid (row_next hb WA.out); replace hG := Go.Lib.hid (grown_next hG.out hb); have hs_w3 := hb.size; clear hb hGG))
          go_roundw
          case rel => exact ⟨k + 1, by omega, by go_num, by rw [HST.out]; simp, by rw [HST.out]; simpa using O.out, hG.out, P.out, R.out⟩
          case measure => simp [intOf]; omega
    · obtain rfl : k = 4 := by omega
      have hkd : decide (((4 : Nat) : Int) < 4) = false := by simp
      go_wp2
      go_ret
      exact ⟨rfl, O.out, hG.out⟩
end Go.Proofs.YtflmkhjleifbbaaDoor
