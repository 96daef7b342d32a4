import Derived.Test.YtfgcpiipndhllaaDoorLiftS2
import Derived.Test.YtfgcpiipndhllaaDoorLiftI3
import Derived.Test.YtfgcpiipndhllaaDoorLiftW
namespace Go.Proofs.YtfgcpiipndhllaaDoor
open Go.RowKit
set_option maxRecDepth 100000
set_option linter.unusedVariables false
set_option linter.unusedSimpArgs false
theorem lin_ex (k : Int) : ∃ fi : Bool, (fi = true ↔ 0 ≤ k ∧ k ≤ 16) ∧ ∀ w, Calls Tryd.prog 75 #[.int .i64 k, .int .i64 0, .int .i64 16] w fun o w' => o = .returned (.bool fi) ∧ Below w.heap.size w w' := by
  by_cases h : 0 ≤ k ∧ k ≤ 16
  · exact ⟨true, by simp [h], fun w => in_yes k 0 16 h.1 h.2 w⟩
  · exact ⟨false, by simp; omega, fun w => in_no k 0 16 (by omega) w⟩
theorem lift_law (s : Sh) (b : Br) (x y k : Int) (e : ErrE) (w : World) (hE : Errs e w) (hf : s.fit) (hfb : b.fit) (hx : -128 ≤ x ∧ x ≤ 127) (hy : -128 ≤ y ∧ y ≤ 127) : Calls Tryd.prog 5 #[.agg s.row, .agg b.row, .agg #[.int .i8 x, .int .i8 y], .int .i64 k] w fun o w' => o = .returned (.bool true) ∧ Below w.heap.size w w' := by
  rw [sp_vrow]
  obtain ⟨fi, hfi, hin⟩ := lin_ex k
  cases ho : b.ok
  · exact lift_walk s b x y k Sh.zero Br.zero 1 e w hE
      (fun w => specLift_err s b w.heap.size x y k 1 fi (.inl rfl) w hin (fun v hm hs => lask_bad b w.heap.size (w.heap.size + 1) x y fi v hs hfb ho) rfl)
      (fun w hE => implLift_err s b x y k 1 (.inl rfl) e w hE fun w hE => ckLift_err s b x y k 1 e w hE fun w hE => ckTouch_bad s b x y e w hE hfb ho)
  · cases hv : okI s
    · exact lift_walk s b x y k Sh.zero Br.zero 1 e w hE
        (fun w => specLift_err s b w.heap.size x y k 1 fi (.inl rfl) w hin (fun v hm hs => lask_next s b w.heap.size (w.heap.size + 1) x y 1 fi v hm hs hfb ho fun u hu => asked_bad s w.heap.size x y fi u hu hf hx hy hv) rfl)
        (fun w hE => implLift_err s b x y k 1 (.inl rfl) e w hE fun w hE => ckLift_err s b x y k 1 e w hE fun w hE => ckTouch_next s b x y _ e w hE hfb ho fun w hE => checkCell_bad s x y hv e w hE)
    · cases hh : hasB s x y
      · exact lift_walk s b x y k Sh.zero Br.zero 2 e w hE
          (fun w => specLift_err s b w.heap.size x y k 2 fi (.inr rfl) w hin (fun v hm hs => lask_next s b w.heap.size (w.heap.size + 1) x y 2 fi v hm hs hfb ho fun u hu => asked_no s w.heap.size x y fi u hu hf hx hy hv hh) rfl)
          (fun w hE => implLift_err s b x y k 2 (.inr rfl) e w hE fun w hE => ckLift_err s b x y k 2 e w hE fun w hE => ckTouch_next s b x y _ e w hE hfb ho fun w hE => checkCell_no s x y hv hh e w hE)
      · by_cases hk : 0 ≤ k ∧ k ≤ 16
        · obtain ⟨x, y, rfl, rfl, hx8, hy8⟩ := ok_has s hv x y hh
          exact lift_walk s b x y k _ _ 0 e w hE
            (fun w => specLift_ok s b x y k w hf hfb hv ho hh hx8 hy8 hk)
            (fun w hE => implLift_ok s b x y k e w hE hx8 hy8 hk (b.ok_lb hfb ho) (ok_dyes s hv x y hx8 hy8) fun w hE => ckLift_ok s b x y k e w hE hk fun w hE => ckTouch_next s b x y _ e w hE hfb ho fun w hE => checkCell_ok s x y hv hh e w hE)
        · have hfalse : fi = false := by
            cases fi
            · rfl
            · exact absurd (hfi.1 rfl) hk
          subst hfalse
          exact lift_walk s b x y k Sh.zero Br.zero 2 e w hE
            (fun w => specLift_err s b w.heap.size x y k 2 false (.inr rfl) w hin (fun v hm hs => lask_next s b w.heap.size (w.heap.size + 1) x y 2 false v hm hs hfb ho fun u hu => asked_unfine s w.heap.size x y u hu hf hx hy hv hh) rfl)
            (fun w hE => implLift_err s b x y k 2 (.inr rfl) e w hE fun w hE => ckLift_un s b x y k e w hE (by omega) fun w hE => ckTouch_next s b x y _ e w hE hfb ho fun w hE => checkCell_ok s x y hv hh e w hE)
end Go.Proofs.YtfgcpiipndhllaaDoor
