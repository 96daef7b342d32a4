import Derived.Deep.RegionHeld3
import Derived.Test.YtfhfiaphdgfmnaaDoorSkW
namespace Go.Proofs.YtfhfiaphdgfmnaaDoor
open Go.RowKit
set_option maxRecDepth 100000
set_option linter.unusedVariables false
set_option linter.unusedSimpArgs false
def demId : Nat → FuncId
  | 0 => 114
  | 1 => 115
  | _ => 116
def demF (k : Nat) : Value := .func (.func (demId k)) #[] #[]
theorem size_f3 : (Tryd.prog.info? 139).map (·.size) = some 3 := by kernel_rfl
theorem zero_f3 : ∀ w, (zeroValue 139).run Tryd.prog w = .ok (.agg (vrow 3 fun _ => .nilFunc)) w := fun _ => by kernel_rfl
theorem dem_any (w : World) : Calls Tryd.prog 102 #[] w fun e w' => e = .returned (.agg (vrow 3 demF)) ∧ Below w.heap.size w w' := by
  have hB : Hid (Below w.heap.size w (w.alloc (.cells (vrow 3 fun _ => .nilFunc) 139))) := ((Below.refl w.heap.size w).alloc (by simp <;> omega) _)
  have Z : Hid ((w.alloc (.cells (vrow 3 fun _ => .nilFunc) 139)).heap[(w.heap.size)]? = some (.cells (vrow 3 fun _ => .nilFunc) 139)) := heap_at _ _ _ (by simp)
  have z4 := zero_f3
  go_enter Tryd.func102, Tryd.ntmps102
  go_wp2_with (first
    | (refine wpList_storeall rfl 139 (.tmp 0) (.tmp 1) rfl (w.heap.size) rfl 3 (fun _ => .nilFunc) demF rfl 139 size_f3 Z.out (fun i _ => rfl) ?_; replace Z := Go.Lib.hid (row_set Z.out (vrow 3 demF)); replace hB := Go.Lib.hid (Below_setRow hB.out (show w.heap.size ≤ w.heap.size by omega) (vrow 3 demF))))
  refine ret_row Tryd.results102 (w.heap.size) 3 demF 139 _ Tryd.underlying139 rfl size_f3 rfl rfl Z.out ?_
  exact ⟨rfl, hB.out⟩
theorem idx3 (k : Nat) (hk : k < 3) (w : World) : (Instr.index 139 (.agg (vrow 3 demF)) (.int .i64 k)).run Tryd.prog w = .ok (.func (.func (demId k)) #[] #[]) w := by
  have i0 : ∀ (a b c : Value) (w : World), (Instr.index 139 (.agg #[a, b, c]) (.int .i64 0)).run Tryd.prog w = .ok a w := fun _ _ _ _ => by kernel_rfl
  have i1 : ∀ (a b c : Value) (w : World), (Instr.index 139 (.agg #[a, b, c]) (.int .i64 1)).run Tryd.prog w = .ok b w := fun _ _ _ _ => by kernel_rfl
  have i2 : ∀ (a b c : Value) (w : World), (Instr.index 139 (.agg #[a, b, c]) (.int .i64 2)).run Tryd.prog w = .ok c w := fun _ _ _ _ => by kernel_rfl
  have : k = 0 ∨ k = 1 ∨ k = 2 := by omega
  rcases this with rfl | rfl | rfl
  · exact i0 _ _ _ w
  · exact i1 _ _ _ w
  · exact i2 _ _ _ w
theorem dem_in (k : Nat) (hk : k < 3) (a : Value) (w : World) : (callFunc (demId k) #[a]).run Tryd.prog w = .ok (.enter (demId k) #[a]) w := by
  have : k = 0 ∨ k = 1 ∨ k = 2 := by omega
  rcases this with rfl | rfl | rfl
  · exact (fun (a : Value) (w : World) => (by kernel_rfl : (callFunc 114 #[a]).run Tryd.prog w = .ok (.enter 114 #[a]) w)) a w
  · exact (fun (a : Value) (w : World) => (by kernel_rfl : (callFunc 115 #[a]).run Tryd.prog w = .ok (.enter 115 #[a]) w)) a w
  · exact (fun (a : Value) (w : World) => (by kernel_rfl : (callFunc 116 #[a]).run Tryd.prog w = .ok (.enter 116 #[a]) w)) a w
def demB (ss : Nat → Sh) (n : Nat) : Nat → Bool
  | 0 => decide (n ≤ 6)
  | 1 => !anyN (fun k => !okI (ss k)) n
  | _ => !anyN (fun k => !alikeB (ss k) (ss 0)) n
theorem demC_any (ss : Nat → Sh) (D n cp k : Nat) (w : World) (hn : n ≤ 1048576) (hf : ∀ i, (ss i).fit) (h1 : w.heap[D]? = some (.cells (vrow (n * 266) (stF ss)) 39)) : Calls Tryd.prog (demId k) #[.slice (some ⟨D, 0, none⟩) n cp] w fun e w' => e = .returned (.bool (demB ss n k)) ∧ Below w.heap.size w w' := by
  match k with
  | 0 => exact few_any _ n cp w
  | 1 => exact allV_any ss D n cp w hn hf h1
  | k + 2 => exact allA_any ss D n cp w hn h1
theorem alN_any (p q : Nat → Bool) : ∀ n, alN (fun k => p k && q k) n = (!anyN (fun k => !p k) n && !anyN (fun k => !q k) n)
  | 0 => rfl
  | n + 1 => by
    show (alN (fun k => p k && q k) n && (p n && q n)) = (!(anyN (fun k => !p k) n || !p n) && !(anyN (fun k => !q k) n || !q n))
    rw [alN_any p q n]
    cases anyN (fun k => !p k) n <;> cases anyN (fun k => !q k) n <;> cases p n <;> cases q n <;> rfl
theorem stOk_dem (ss : Nat → Sh) (n : Nat) (hf : ∀ i, (ss i).fit) : stOk ss n = (demB ss n 0 && (demB ss n 1 && demB ss n 2)) := by
  have e : stOne ss = fun k => okI (ss k) && alikeB (ss k) (ss 0) := funext fun k => by unfold stOne; rw [ok_eq (ss k) (hf k)]
  unfold stOk
  rw [e, alN_any]
  show ((!anyN _ n && !anyN _ n) && decide (n ≤ 6)) = (decide (n ≤ 6) && (!anyN _ n && !anyN _ n))
  rw [Bool.and_comm]
set_option maxHeartbeats 4000000 in
theorem ivk_any (ss : Nat → Sh) (D n cp : Nat) (w : World) (hn : n ≤ 1048576) (hf : ∀ i, (ss i).fit) (h1 : w.heap[D]? = some (.cells (vrow (n * 266) (stF ss)) 39)) : Calls Tryd.prog 80 #[.slice (some ⟨D, 0, none⟩) n cp] w fun e w' => e = .returned (.bool (stOk ss n)) ∧ Below w.heap.size w w' := by
  have HD := Go.Lib.hid fun k w h => demC_any ss D n cp k w hn hf h
  have hst := stOk_dem ss n hf
  have P := Go.Lib.hid h1
  have hB := Go.Lib.hid (Below.refl w.heap.size w)
  clear h1 hf
  generalize demB ss n = t at *
  have HST := Go.Lib.hid hst
  clear hst
  generalize stOk ss n = st at *
  go_enter Tryd.func80, Tryd.ntmps80
  go_wp2_with (first
    | go_skip
    | (go_at_call 102; (refine (dem_any _).mono ?_); rintro o w1 ⟨rfl, hb⟩; replace P := Go.Lib.hid (row_next hb P.out); replace hB := Go.Lib.hid (below_next hB.out hb); clear hb))
  have p1 := P.out; have b1 := hB.out
  clear P hB
  go_loopw [6] (fun iv wr => ∃ k : Nat, k ≤ 3 ∧ iv = .int .i64 k ∧ (∀ i, i < k → t i = true) ∧ wr.heap[D]? = some (.cells (vrow (n * 266) (stF ss)) 39) ∧ Below w.heap.size w wr) (fun iv _ => 3 - (intOf iv).toNat)
  case atStart => exact ⟨0, by omega, rfl, fun i hi => by omega, p1, b1⟩
  case round =>
    clear p1 b1
    obtain ⟨k, hk, rfl, hal, P, hB⟩ := hrel
    have HAL := Go.Lib.hid hal
    clear hal
    replace P := Go.Lib.hid P; replace hB := Go.Lib.hid hB
    by_cases hlt : k < 3
    · have hkI : (k : Int) < 3 := by omega
      have HK := Go.Lib.hid fun w h => HD.out k w h
      have hix := idx3 k hlt
      have hin := dem_in k hlt
      obtain ⟨b, hb0⟩ : ∃ b, t k = b := ⟨_, rfl⟩
      rw [hb0] at HK
      have HTK := Go.Lib.hid hb0
      clear hb0
      generalize demId k = F at *
      go_wp2
      refine (HK.out _ P.out).mono ?_
      rintro e w1 ⟨rfl, hb⟩
      replace P := Go.Lib.hid (row_next hb P.out); replace hB := Go.Lib.hid (below_next hB.out hb)
      clear hb
      (try simp only [Act.put, List.setIfInBounds_toArray, List.set_cons_succ, List.set_cons_zero])
      cases b
      · go_wp2
        go_ret
        refine ⟨?_, hB.out⟩
        have h3 : st = false := by
          rw [HST.out]
          have : k = 0 ∨ k = 1 ∨ k = 2 := by omega
          rcases this with rfl | rfl | rfl <;> rw [HTK.out] <;> simp
        rw [h3]
        rfl
      · go_wp2
        go_roundw
        case rel => exact ⟨k + 1, by omega, by go_num, fun i hi => by
          by_cases he : i = k
          · rw [he]; exact HTK.out
          · exact HAL.out i (by omega), P.out, hB.out⟩
        case measure => simp [intOf]; omega
    · obtain rfl : k = 3 := by omega
      have h3 : st = true := by rw [HST.out, HAL.out 0 (by omega), HAL.out 1 (by omega), HAL.out 2 (by omega)]; rfl
      subst h3
      go_wp2
      go_ret
      exact ⟨rfl, hB.out⟩
end Go.Proofs.YtfhfiaphdgfmnaaDoor
