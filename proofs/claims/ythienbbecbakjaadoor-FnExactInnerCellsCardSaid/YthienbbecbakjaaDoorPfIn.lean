/- PROVED: for every sheet and list of cells the program's InnerCells answers as the model's, leaves the list as it was, and owns what it answers. No condition. -/
import Derived.Test.YthienbbecbakjaaDoorLawIn
import Derived.Test.YthienbbecbakjaaDoorOpenP
import Derived.Test.YthienbbecbakjaaDoorOkEq
import Derived.Test.YthienbbecbakjaaDoorLaid2
import Derived.Test.YthienbbecbakjaaDoorSpot
import Derived.Test.YthienbbecbakjaaDoorCards
import Derived.Test.YthienbbecbakjaaDoorTie
import Derived.SevenTiedAt
namespace Go.Proofs.YthienbbecbakjaaDoor.fnExactInnerCells
open Go.ChangeShapes Go.WideShapes Go.ChangeAt Go.RowKit
set_option maxRecDepth 100000
set_option linter.unusedVariables false
theorem and_tt {a b : Bool} (h : a = true) (k : b = true) : (a && b) = true := by rw [h, k]; rfl
set_option maxHeartbeats 8000000 in
theorem joined : joinedFacts Tryd.pinned.checked.prog 5 Tryd.f5 Rows.fnExactInnerCellsSpec Rows.fnExactInnerCellsRow = true := by
  unfold joinedFacts
  repeat' (with_reducible refine and_tt ?_ ?_)
  all_goals (as_aux_lemma => kernel_rfl)
set_option maxHeartbeats 1000000 in
theorem lifted (os : Os) (started : os.Started) (H : Type) (enc : TypeId × Value → H) :
    ReturnsInHanded {} Tryd.checked os 5 .any (fun w args => (Rows.fnExactInnerCellsSpec.pre enc Tryd.prog Tryd.f5 [] false w args ∧ laidMetH Tryd.prog laidM w) ∧ sizedMet enc Tryd.prog Tryd.f5 (OpenSpec.ofChange Rows.fnExactInnerCellsSpec) false w args) (Rows.fnExactInnerCellsSpec.post enc Tryd.prog Tryd.f5 false true false false) := by
  refine returnsInHanded_of_change_and (C := Tryd.checked) (X := fun w _ => laidMetH Tryd.prog laidM w) (fun _ _ _ hh h => h.of_heap hh) ownK started (by kernel_rfl) Tryd.func5
    (ChangeSpec.witness_shaped (enc := enc) (C := Tryd.checked) (os := os) (X := fun w _ => laidMetH Tryd.prog laidM w) false (World.doorLaid Tryd.prog 123 os) #[(.agg Sh.zero.row), (.slice none 0 0)] 8 rfl (World.shaped_of_RefB (by kernel_rfl) (by kernel_rfl)) (by kernel_rfl) (by kernel_rfl) (by kernel_rfl) (door_met os _)) ?_
  intro W base args ds gs before hval0 hW _ _ hL _
  have hval : ∀ (j : Nat) t v, Tryd.f5.params[j]? = some t → args[j]? = some v → Value.okWide Tryd.prog W .any base t v := hval0
  have hW' := hW
  obtain ⟨p, q, hA0, hV0, rfl, hfz, hnd⟩ := hW
  have hA : DataW.TrodAll enc Tryd.prog W 0 (fun _ => true) true Tryd.f5.params.toList args.toList ds p := hA0
  have hV : DataW.TrodVars enc Tryd.prog W (fun _ => true) vars213457 gs q := hV0
  rw [Tryd.params5] at hA hval
  obtain ⟨v0, vs0, d0, ds0, p0, q0, hargs, rfl, rfl, h0, r0⟩ := trodAll_cons hA
  obtain ⟨v1, vs1, d1, ds1, p1, q1, rfl, rfl, rfl, h1, r1⟩ := trodAll_cons r0
  obtain ⟨rfl, rfl, rfl⟩ := trodAll_nil r1
  obtain rfl : args = #[v0, v1] := by cases args; simp_all
  obtain ⟨e, hE⟩ := of_laid hL
  obtain ⟨rfl, rfl⟩ := hV.unique (vars_read213457 enc hE _)
  obtain ⟨a0, w0, rfl, rfl⟩ := open_sheet (hval 0 31 v0 rfl rfl) h0
  obtain ⟨ao1, n1, c1, px1, py1, hn1, hx1, hy1, hp1, rfl, hl1⟩ := open_path (hval 1 32 v1 rfl rfl) h1
  clear hA0 hV0 hval0
  refine ((fun (s : Sh) (h : s.wf) (ao : Option Addr) (n c : Nat) (px py : Nat → Int) (hn : n ≤ 9223372036854775807) (hx : ∀ i, i < n → -128 ≤ px i ∧ px i ≤ 127) (hy : ∀ i, i < n → -128 ≤ py i ∧ py i ≤ 127) (hp : PathC W ao n px py) e (_ : World) hE => ic_law s ao n c px py e W hE h.fit hn hx hy hp) a0 w0 ao1 n1 c1 px1 py1 hn1 hx1 hy1 hp1 e W hE).mono fun o W' ⟨he, hb⟩ => ?_
  subst he
  have laid : laidOutB Tryd.prog = true := by kernel_rfl
  exact ⟨_, rfl, _, _, _, _, _, _, hW', (trodAll_cons_mk (shut_bool Tryd.underlying4 _) trodAll_mk0), (trodAll_cons_mk (Below.trod laid (by kernel_rfl) (of_decide_eq_true (by kernel_rfl)) h0 hb (fun _ h => by cases h)) (trodAll_cons_mk (Below.trod laid (by kernel_rfl) (of_decide_eq_true (by kernel_rfl)) h1 hb hl1) trodAll_mk0)), vars_read213457 enc (hE.next hb) _, hb.frame _, fun h => by cases h⟩
theorem over : Rows.fnExactInnerCellsRow.holds Tryd.pinned (OpenSpec.ofChange Rows.fnExactInnerCellsSpec) :=
  OpenClaim.holds_of_wide 5 Tryd.f5 rfl rfl rfl rfl rfl rfl rfl ⟨rfl, rfl, rfl, rfl, rfl⟩ rfl rfl rfl rfl rfl (by kernel_rfl) Tryd.func5 joined
    (of_decide_eq_true (by kernel_rfl)) (by unfold Func.isWrapper; first | (rw [if_pos (by decide +kernel)]; kernel_rfl) | (rw [if_neg (by decide +kernel)]; exact ⟨rfl, rfl⟩))
    (fun os started H enc _ => lifted os started H enc)
theorem proved : Rows.FnExactInnerCellsCardSaid :=
  Claim7.holds_tied_plain_at .later [] [.sentinel, .sentinel, .sentinel, .sentinel, .sentinel, .sentinel] true Rows.fnExactInnerCellsCard.stood.harness true
    over (fun _ h => by cases h) (by kernel_rfl) (fun _ h => by cases h) fnExactInnerCells_row_tie rfl ⟨rfl, rfl⟩ (by kernel_rfl) rfl
    (fun f fn hf hfn => by
      obtain rfl : f = 5 := Option.some.inj ((show Tryd.prog.funcNamed "loop.example/g01360/laws.FnExactInnerCells" = some 5 by kernel_rfl).symm.trans hf) |>.symm
      obtain rfl : fn = Tryd.f5 := (Option.some.inj (Tryd.func5.symm.trans hfn)).symm
      exact ⟨by kernel_rfl, fun j t ht => by
        rw [Tryd.params5] at ht
        have hm : t ∈ [31, 32] := by simpa using Array.mem_of_getElem? ht
        have hall : ([31, 32].all fun u => !Tryd.prog.wantsStandIn u) = true := by kernel_rfl
        exact (show Tryd.prog.wantsStandIn t = false by simpa using List.all_eq_true.1 hall t hm)⟩)
    (by kernel_rfl)
#print axioms proved
end Go.Proofs.YthienbbecbakjaaDoor.fnExactInnerCells
