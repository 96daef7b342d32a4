import Derived.Test.YtfgcpiipndhllaaDoorDrOnW
import Derived.Test.YtfgcpiipndhllaaDoorOpenDr
namespace Go.Proofs.YtfgcpiipndhllaaDoor
open Go.RowKit
set_option maxRecDepth 100000
set_option linter.unusedVariables false
set_option linter.unusedSimpArgs false
theorem dron_law (p : Pic) (x y n : Int) (e : ErrE) (w : World) (hE : Errs e w) (hf : p.fit) (hx : -128 ≤ x ∧ x ≤ 127) (hy : -128 ≤ y ∧ y ≤ 127) (hn : 0 ≤ n ∧ n ≤ 255) : Calls Tryd.prog 6 #[.agg p.row, .agg (vrow 3 (drAt x y n))] w fun o w' => o = .returned (.bool true) ∧ Below w.heap.size w w' := by
  have hc1 : canA p (fun _ => x) (fun _ => y) (fun _ => n) 1 = canB p x y n := by show (true && _) = _; simp
  have bad : ∀ k, badD p (fun _ => x) (fun _ => y) (fun _ => n) 1 k → (∀ w, Calls Tryd.prog 27 #[.agg p.row, .agg (vrow 3 (drAt x y n))] w fun o w' => o = .returned (.tuple #[.agg Pic.zero.row, .int .i64 k]) ∧ Below w.heap.size w w') → Calls Tryd.prog 6 #[.agg p.row, .agg (vrow 3 (drAt x y n))] w fun o w' => o = .returned (.bool true) ∧ Below w.heap.size w w' := fun k hk hs =>
    dron_walk p x y n Pic.zero k e w hE hs (fun w hE => implOn_any p x y n k Pic.zero e w hE fun D W h1 h2 => implAll_err p D 1 _ _ _ k hf hk e W h1 h2)
  cases h1 : okP p
  · exact bad 1 (.inl ⟨h1, rfl⟩) (fun w => specOn_bad p x y n h1 w hf hx hy hn)
  · cases hc : canB p x y n
    · exact bad 2 (.inr (.inr ⟨h1, by omega, by rw [hc1, hc], rfl⟩)) (fun w => specOn_rng p x y n h1 hc w hf hx hy hn)
    · obtain ⟨a, c, ea, ec, ha, hcc⟩ := okP_nat2 h1
      exact dron_walk p x y n (drpP p a c (fun _ => x) (fun _ => y) (fun _ => n) 1) 0 e w hE (fun w => specOn_ok p x y n a c h1 hc ea ec ha.2 hcc.2 w hf hx hy hn) (fun w hE => implOn_any p x y n 0 _ e w hE fun D W h2 h3 => implAll_ok p D 1 a c _ _ _ hf (fun _ _ => hx) (fun _ _ => hy) (fun _ _ => hn) h1 (by omega) (by rw [hc1, hc]) ea ec ha.2 hcc.2 e W h2 h3)
end Go.Proofs.YtfgcpiipndhllaaDoor
