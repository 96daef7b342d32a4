/- PROVED: for every stack the program's ValidStack answers as the model's, and leaves it as it was. No condition. -/
import Derived.Test.YtfhfiaphdgfmnaaLawVk
import Derived.Test.YtfhfiaphdgfmnaaOpenSk
import Derived.Test.YtfhfiaphdgfmnaaOkEq
import Derived.Test.YtfhfiaphdgfmnaaRows
import Derived.ProofKit
import Derived.OpenShut
import Derived.Carry
namespace Go.Proofs.Ytfhfiaphdgfmnaa.fnExactValidStack
open Go.ChangeShapes Go.WideShapes Go.ChangeAt Go.RowKit
set_option maxRecDepth 100000
set_option linter.unusedVariables false
theorem own : ownKnob Try.prog.godebug = none := by kernel_rfl
set_option maxRecDepth 100000 in
theorem lifted (os : Os) (started : os.Started) (H : Type) (enc : TypeId × Value → H) :
    ReturnsInHanded {} Try.checked os 3 .any (Rows.fnExactValidStackSpec.pre6 enc Try.prog Try.f3 Rows.fnExactValidStackRow.domain false) (Rows.fnExactValidStackSpec.post enc Try.prog Try.f3 false true false false) := by
  refine returnsInHanded_of_change (C := Try.checked) own started (by kernel_rfl) Try.func3
    (ChangeSpec.witness6 (enc := enc) (C := Try.checked) false ⟨#[], #[(.slice none 0 0)], []⟩ 8 (by kernel_rfl) (by kernel_rfl) (by kernel_rfl) (by kernel_rfl)) ?_
  intro W base args ds gs before hval0 hW hcnd _
  have hval : ∀ (j : Nat) t v, Try.f3.params[j]? = some t → args[j]? = some v → Value.okWide Try.prog W .any base t v := hval0
  have hW' := hW
  obtain ⟨p, q, hA0, hV, rfl, hfz, hnd⟩ := hW
  have hA : DataW.TrodAll enc Try.prog W 0 (fun _ => true) true Try.f3.params.toList args.toList ds p := hA0
  rw [Try.params3] at hA hval
  obtain ⟨v0, vs0, d0, ds0, p0, q0, hargs, rfl, rfl, h0, r0⟩ := trodAll_cons hA
  obtain ⟨rfl, rfl, rfl⟩ := trodAll_nil r0
  obtain rfl : args = #[v0] := by cases args; simp_all
  obtain ⟨rfl, rfl⟩ := trodVars_none hV
  obtain ⟨ao0, n0, c0, ss0, hn0, hs0, hp0, rfl, hl0⟩ := open_stack (hval 0 22 v0 rfl rfl) h0
  clear hA0 hval0
  simp only [List.append_nil] at hW'
  refine ((fun (ao : Option Addr) (n c1 : Nat) (sa : Nat → Sh) (hn : n ≤ 9223372036854775807) (hw : ∀ i, (sa i).wf) (ha : StC W ao n sa) (_ : World) => vk_law ao n c1 sa W hn (fun i => (hw i).fit) ha) ao0 n0 c0 ss0 hn0 hs0 hp0 W).mono fun e W' ⟨he, hb⟩ => ?_
  subst he
  have laid : laidOutB Try.prog = true := by kernel_rfl
  exact ⟨_, rfl, _, _, _, _, _, [], hW', (trodAll_cons_mk (shut_bool Try.underlying4 _) trodAll_mk0), (trodAll_cons_mk (Below.trod laid (by kernel_rfl) (of_decide_eq_true (by kernel_rfl)) h0 hb hl0) trodAll_mk0), rfl, hb.frame _, fun h => by cases h⟩
theorem over : Rows.fnExactValidStackRow.holds Try.pinned (OpenSpec.ofChange Rows.fnExactValidStackSpec) :=
  OpenClaim.holds_of_wide 3 Try.f3 rfl rfl rfl rfl rfl rfl rfl ⟨rfl, rfl, rfl, rfl, rfl⟩ rfl rfl rfl rfl rfl (by kernel_rfl) Try.func3 (by kernel_rfl)
    (of_decide_eq_true (by kernel_rfl)) (by unfold Func.isWrapper; first | (rw [if_pos (by decide +kernel)]; kernel_rfl) | (rw [if_neg (by decide +kernel)]; exact ⟨rfl, rfl⟩))
    (fun os started H enc _ => lifted os started H enc)
theorem proved : Rows.FnExactValidStackSaid :=
  over
#print axioms proved
end Go.Proofs.Ytfhfiaphdgfmnaa.fnExactValidStack
