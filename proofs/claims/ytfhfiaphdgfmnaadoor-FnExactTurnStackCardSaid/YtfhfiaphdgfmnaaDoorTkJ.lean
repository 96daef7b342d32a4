import Derived.Deep.RegionHeld3
import Derived.Test.YtfhfiaphdgfmnaaDoorTkI
import Derived.Test.YtfhfiaphdgfmnaaDoorUnlK
import Derived.Test.YtfhfiaphdgfmnaaDoorCkSt
import Derived.Test.YtfhfiaphdgfmnaaDoorCodeOf
namespace Go.Proofs.YtfhfiaphdgfmnaaDoor
open Go.RowKit
set_option maxRecDepth 100000
set_option linter.unusedVariables false
set_option linter.unusedSimpArgs false
theorem turnPK (ss : Nat → Sh) (D n : Nat) (w : World) (hn : n ≤ 1048576) (hoo : ∀ k, k < n → okI (ss k) = true) (h2 : w.heap[D]? = some (.cells (vrow (n * 266) (stF ss)) 39)) : Calls Tryd.prog 56 #[.slice (some ⟨D, 0, none⟩) n n] w fun e w' => (∃ v, e = .returned v ∧ PK w' v n (turS ss n) w.heap.size) ∧ Below w.heap.size w w' := by
  refine (turnK_any ss D n w hn hoo h2).mono ?_
  rintro e w' ⟨rfl, hO, hb⟩
  rw [bkK_range] at hO
  exact ⟨⟨_, rfl, own_pk hO⟩, hb⟩
set_option maxHeartbeats 2000000 in
theorem itk_bad (ss : Nat → Sh) (D n : Nat) (e : ErrE) (w : World) (hE : Errs e w) (hn : n ≤ 1048576) (hf : ∀ i, (ss i).fit) (ho : stOk ss n = false) (h1 : w.heap[D]? = some (.cells (vrow (n * 266) (stF ss)) 39)) : Calls Tryd.prog 23 #[.slice (some ⟨D, 0, none⟩) n n] w fun o w' => o = .returned (.tuple #[.slice none 0 0, .int .i64 1]) ∧ Below w.heap.size w w' := by
  have HC := Go.Lib.hid fun w hE h => ckSt_bad ss D n n e w hE hn hf ho h
  have HU := Go.Lib.hid fun fv w hE => unl_stk_err fv 1 1 e w hE (fun w hE => codeOf_1 e w hE)
  have hmf : ∀ (fn : Fn) (first cap : Array Value) (w : World), (Instr.makeFunc fn first cap).run Tryd.prog w = .ok (.func fn first cap) w := fun _ _ _ _ => rfl
  have P := Go.Lib.hid h1
  have hB := Go.Lib.hid (Below.refl w.heap.size w)
  clear h1 ho hf
  go_enter Tryd.func23, Tryd.ntmps23
  go_wp2_with (first
    | go_skip
    | (go_at_call 55; (refine (HC.out _ (hE.next hB.out) P.out).mono ?_); rintro o w1 ⟨rfl, hb⟩; replace P := Go.Lib.hid (row_next hb P.out); replace hB := Go.Lib.hid (below_next hB.out hb); clear hb)
    | (go_at_call 54; (refine (HU.out _ _ (hE.next hB.out)).mono ?_); rintro o w2 ⟨rfl, hb⟩; replace P := Go.Lib.hid (row_next hb P.out); replace hB := Go.Lib.hid (below_next hB.out hb); clear hb))
  go_ret2
  exact ⟨rfl, hB.out⟩
set_option maxHeartbeats 2000000 in
theorem itk_ok (ss : Nat → Sh) (D n : Nat) (e : ErrE) (w : World) (hE : Errs e w) (hn : n ≤ 1048576) (hf : ∀ i, (ss i).fit) (ho : stOk ss n = true) (hoo : ∀ k, k < n → okI (ss k) = true) (h1 : w.heap[D]? = some (.cells (vrow (n * 266) (stF ss)) 39)) : Calls Tryd.prog 23 #[.slice (some ⟨D, 0, none⟩) n n] w fun o w' => ∃ v, o = .returned (.tuple #[v, .int .i64 0]) ∧ PK w' v n (turS ss n) w.heap.size ∧ Below w.heap.size w w' := by
  have HC := Go.Lib.hid fun w hE h => ckSt_ok ss D n n e w hE hn hf ho h
  have HU := Go.Lib.hid fun w h => unl_stk_ok n (turS ss n) (.slice (some ⟨D, 0, none⟩) n n) w (fun W hW => turnPK ss D n W hn hoo (row_next hW h))
  have hmf : ∀ (fn : Fn) (first cap : Array Value) (w : World), (Instr.makeFunc fn first cap).run Tryd.prog w = .ok (.func fn first cap) w := fun _ _ _ _ => rfl
  have P := Go.Lib.hid h1
  have hB := Go.Lib.hid (Below.refl w.heap.size w)
  clear h1 ho hf hoo
  go_enter Tryd.func23, Tryd.ntmps23
  go_wp2_with (first
    | go_skip
    | (go_at_call 55; (refine (HC.out _ (hE.next hB.out) P.out).mono ?_); rintro o w1 ⟨rfl, hb⟩; replace P := Go.Lib.hid (row_next hb P.out); replace hB := Go.Lib.hid (below_next hB.out hb); clear hb)
    | (go_at_call 54; (refine (HU.out _ P.out).mono ?_); rintro o w2 ⟨⟨v, rfl, hO⟩, hb⟩; have O := Go.Lib.hid (hO.lo hB.out.size); clear hO; replace P := Go.Lib.hid (row_next hb P.out); replace hB := Go.Lib.hid (below_next hB.out hb); clear hb))
  go_ret2
  exact ⟨_, rfl, O.out, hB.out⟩
end Go.Proofs.YtfhfiaphdgfmnaaDoor
