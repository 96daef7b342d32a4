/- PROVED: for every stack the program's TurnStack answers as the model's, and leaves the stack as it was. No condition. -/
import Derived.Test.YtfhfiaphdgfmnaaDoorLawTk
import Derived.Test.YtfhfiaphdgfmnaaDoorOpenSk
import Derived.Test.YtfhfiaphdgfmnaaDoorOkEq
import Derived.Test.YtfhfiaphdgfmnaaDoorLaid2
import Derived.Test.YtfhfiaphdgfmnaaDoorSpot
import Derived.Test.YtfhfiaphdgfmnaaDoorCards
import Derived.Test.YtfhfiaphdgfmnaaDoorTie
import Derived.SevenTiedAt
namespace Go.Proofs.YtfhfiaphdgfmnaaDoor.fnExactTurnStack
open Go.ChangeShapes Go.WideShapes Go.ChangeAt Go.RowKit
set_option maxRecDepth 100000
set_option linter.unusedVariables false
set_option maxHeartbeats 1000000 in
theorem lifted (os : Os) (started : os.Started) (H : Type) (enc : TypeId × Value → H) :
    ReturnsInHanded {} Tryd.checked os 5 .any (fun w args => (Rows.fnExactTurnStackSpec.pre enc Tryd.prog Tryd.f5 [] false w args ∧ laidMetH Tryd.prog laidM w) ∧ sizedMet enc Tryd.prog Tryd.f5 (OpenSpec.ofChange Rows.fnExactTurnStackSpec) false w args) (Rows.fnExactTurnStackSpec.post enc Tryd.prog Tryd.f5 false true false false) := by
  refine returnsInHanded_of_change_and (C := Tryd.checked) (X := fun w _ => laidMetH Tryd.prog laidM w) (fun _ _ _ hh h => h.of_heap hh) ownK started (by kernel_rfl) Tryd.func5
    (ChangeSpec.witness_shaped (enc := enc) (C := Tryd.checked) (os := os) (X := fun w _ => laidMetH Tryd.prog laidM w) false (World.doorLaid Tryd.prog 142 os) #[(.slice none 0 0)] 8 rfl (World.shaped_of_RefB (by kernel_rfl) (by kernel_rfl)) (by kernel_rfl) (by kernel_rfl) (by kernel_rfl) (door_met os _)) ?_
  intro W base args ds gs before hval0 hW _ _ hL _
  have hval : ∀ (j : Nat) t v, Tryd.f5.params[j]? = some t → args[j]? = some v → Value.okWide Tryd.prog W .any base t v := hval0
  have hW' := hW
  obtain ⟨p, q, hA0, hV0, rfl, hfz, hnd⟩ := hW
  have hA : DataW.TrodAll enc Tryd.prog W 0 (fun _ => true) true Tryd.f5.params.toList args.toList ds p := hA0
  have hV : DataW.TrodVars enc Tryd.prog W (fun _ => true) vars123457 gs q := hV0
  rw [Tryd.params5] at hA hval
  obtain ⟨v0, vs0, d0, ds0, p0, q0, hargs, rfl, rfl, h0, r0⟩ := trodAll_cons hA
  obtain ⟨rfl, rfl, rfl⟩ := trodAll_nil r0
  obtain rfl : args = #[v0] := by cases args; simp_all
  obtain ⟨e, hE⟩ := of_laid hL
  obtain ⟨rfl, rfl⟩ := hV.unique (vars_read123457 enc hE _)
  obtain ⟨ao0, n0, c0, ss0, hn0, hs0, hp0, rfl, hl0⟩ := open_stack (hval 0 22 v0 rfl rfl) h0
  clear hA0 hV0 hval0
  refine ((fun (ao : Option Addr) (n c1 : Nat) (sa : Nat → Sh) (hn : n ≤ 9223372036854775807) (hw : ∀ i, (sa i).wf) (ha : StC W ao n sa) e (_ : World) hE => tk_law ao n c1 sa e W hE hn (fun i => (hw i).fit) ha) ao0 n0 c0 ss0 hn0 hs0 hp0 e W hE).mono fun o W' ⟨he, hb⟩ => ?_
  subst he
  have laid : laidOutB Tryd.prog = true := by kernel_rfl
  exact ⟨_, rfl, _, _, _, _, _, _, hW', (trodAll_cons_mk (shut_bool Tryd.underlying4 _) trodAll_mk0), (trodAll_cons_mk (Below.trod laid (by kernel_rfl) (of_decide_eq_true (by kernel_rfl)) h0 hb hl0) trodAll_mk0), vars_read123457 enc (hE.next hb) _, hb.frame _, fun h => by cases h⟩
theorem over : Rows.fnExactTurnStackRow.holds Tryd.pinned (OpenSpec.ofChange Rows.fnExactTurnStackSpec) :=
  OpenClaim.holds_of_wide 5 Tryd.f5 rfl rfl rfl rfl rfl rfl rfl ⟨rfl, rfl, rfl, rfl, rfl⟩ rfl rfl rfl rfl rfl (by kernel_rfl) Tryd.func5 (by kernel_rfl)
    (of_decide_eq_true (by kernel_rfl)) (by unfold Func.isWrapper; first | (rw [if_pos (by decide +kernel)]; kernel_rfl) | (rw [if_neg (by decide +kernel)]; exact ⟨rfl, rfl⟩))
    (fun os started H enc _ => lifted os started H enc)
theorem proved : Rows.FnExactTurnStackCardSaid :=
  Claim7.holds_tied_plain_at .later [] [.sentinel, .sentinel, .sentinel, .sentinel, .sentinel, .sentinel] true Rows.fnExactTurnStackCard.stood.harness true
    over (fun _ h => by cases h) (by kernel_rfl) (fun _ h => by cases h) fnExactTurnStack_row_tie rfl ⟨rfl, rfl⟩ (by kernel_rfl) rfl
    (fun f fn hf hfn => by
      obtain rfl : f = 5 := Option.some.inj ((show Tryd.prog.funcNamed "loop.example/g01360/laws.FnExactTurnStack" = some 5 by kernel_rfl).symm.trans hf) |>.symm
      obtain rfl : fn = Tryd.f5 := (Option.some.inj (Tryd.func5.symm.trans hfn)).symm
      exact ⟨by kernel_rfl, fun j t ht => by
        rw [Tryd.params5] at ht
        have hm : t ∈ [22] := by simpa using Array.mem_of_getElem? ht
        have hall : ([22].all fun u => !Tryd.prog.wantsStandIn u) = true := by kernel_rfl
        exact (show Tryd.prog.wantsStandIn t = false by simpa using List.all_eq_true.1 hall t hm)⟩)
    (by kernel_rfl)
#print axioms proved
end Go.Proofs.YtfhfiaphdgfmnaaDoor.fnExactTurnStack
