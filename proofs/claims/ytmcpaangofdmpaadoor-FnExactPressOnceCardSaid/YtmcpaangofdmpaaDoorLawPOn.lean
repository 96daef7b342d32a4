import Derived.Deep.RegionHeld3
import Derived.Test.YtmcpaangofdmpaaDoorPOnW
import Derived.Test.YtmcpaangofdmpaaDoorPrS
import Derived.Test.YtmcpaangofdmpaaDoorPrA
namespace Go.Proofs.YtmcpaangofdmpaaDoor
open Go.RowKit
set_option maxRecDepth 100000
set_option linter.unusedVariables false
set_option linter.unusedSimpArgs false
theorem bdP_ok {s : Sh} (ho : okI s = true) : bdP s := ⟨fun j hj => by
  have h := ok_bounds s ho (j / 3 % 8) (j / 24) (by omega) (by omega)
  have e : j = 24 * (j / 24) + 3 * (j / 3 % 8) + j % 3 := by omega
  have hm : j % 3 = 0 ∨ j % 3 = 1 ∨ j % 3 = 2 := by omega
  rcases hm with h0 | h0 | h0
  · rw [e, h0]; exact h.2.1
  · rw [e, h0]; exact h.2.2.1
  · rw [e, h0]; exact h.2.2.2, fun j hj => by
  have h := (ok_bounds s ho (j % 8) (j / 8) (by omega) (by omega)).1
  rw [show 8 * (j / 8) + j % 8 = j by omega] at h
  omega⟩
theorem fitW (s : Sh) (ho : okI s = true) : ∃ a c : Nat, s.wide = a ∧ s.high = c ∧ (1 ≤ a ∧ a ≤ 8) ∧ (1 ≤ c ∧ c ≤ 8) := by
  simp only [okI, Bool.and_eq_true, decide_eq_true_eq] at ho
  obtain ⟨⟨a1, a2⟩, ⟨a3, a4⟩, _⟩ := ho
  exact ⟨s.wide.toNat, s.high.toNat, by omega, by omega, by omega, by omega⟩
/-- the program presses one fold -/
theorem impl1 (s : Sh) (ax : Int) (d : Bool) (p : Int) (e : ErrE) (hf : s.fit) (w : World) (hE : Errs e w) (r : Sh) (m c : Int)
    (h : (okI s = false ∧ r = Sh.zero ∧ m = 0 ∧ c = 1) ∨ (okI s = true ∧ foldOk s ax d p = false ∧ r = Sh.zero ∧ m = 0 ∧ c = 2) ∨ (okI s = true ∧ foldOk s ax d p = true ∧ ∃ a b : Nat, s.wide = a ∧ s.high = b ∧ (1 ≤ a ∧ a ≤ 8) ∧ (1 ≤ b ∧ b ≤ 8) ∧ r = (prF s a b (fun _ => ax) (fun _ => d) (fun _ => p) 1).1 ∧ m = (prF s a b (fun _ => ax) (fun _ => d) (fun _ => p) 1).2 ∧ c = 0)) :
    Calls Tryd.prog 15 #[.agg s.row, .agg (vrow 3 (foAt ax d p))] w fun o w' => o = .returned (.tuple #[.agg r.row, .int .i64 m, .int .i64 c]) ∧ Below w.heap.size w w' := by
  refine implPO s ax d p r m c e w hE fun W ao hEW hF => ?_
  rcases h with ⟨ho, rfl, rfl, rfl⟩ | ⟨ho, hk, rfl, rfl, rfl⟩ | ⟨ho, hk, a, b, ea, ec, ha, hb, rfl, rfl, rfl⟩
  · exact implPA s ao 1 1 _ _ _ Sh.zero 0 1 (errP e 1) e W hEW hF (fun W hE => ckF_bad s ao 1 1 e W hE hf ho) (fun W hE _ _ _ => unl_pd_err _ 1 1 e W hE (fun w hE => codeOf_1 e w hE))
  · exact implPA s ao 1 1 _ _ _ Sh.zero 0 2 .nilIface e W hEW hF (fun W hE => ckF_ok s ao 1 1 e W hE hf ho (by omega)) (fun W1 hE h1 h2 hF1 => unl_pd_catch W.heap.size (W.heap.size + 1) ax d p e W1 hE (fun W2 hb => pac_bad s ao 1 1 _ _ _ ax d p _ _ W2 (row_next hb h1) (row_next hb h2) ((hF1.next hb).mono hb.size) (fun W3 hF3 => by
      rcases fitW s ho with ⟨a, c, ea, ec, ha, hc⟩
      exact pby_bad s a c ao 1 1 _ _ _ W3 hf ho (bdP_ok ho) ea ec ha hc (by omega) hF3 0 (by omega) (fun i hi => by omega) hk)))
  · exact implPA s ao 1 1 _ _ _ _ _ 0 .nilIface e W hEW hF (fun W hE => ckF_ok s ao 1 1 e W hE hf ho (by omega)) (fun W1 hE h1 h2 hF1 => unl_pd_ok W.heap.size (W.heap.size + 1) _ _ W1 (fun W2 hb2 => pac_ok s ao 1 1 _ _ _ _ _ _ _ W2 (row_next hb2 h1) (row_next hb2 h2) ((hF1.next hb2).mono hb2.size) (fun W3 hF3 => pby_ok s a b ao 1 1 _ _ _ W3 hf ho (bdP_ok ho) ea ec ha hb (by omega) hF3 (fun i hi => hk))))
theorem prF_one (s : Sh) (a b : Nat) (ax : Int) (d : Bool) (p : Int) : prF s a b (fun _ => ax) (fun _ => d) (fun _ => p) 1 = prL p ax d s (prsL s a b ax d) := by
  show (_, (0 : Int) + _) = _
  rw [Int.zero_add]
  rfl
theorem pon_law (s : Sh) (ax : Int) (d : Bool) (p : Int) (e : ErrE) (w : World) (hE : Errs e w) (hf : s.fit) (hax : -128 ≤ ax ∧ ax ≤ 127) (hap : -128 ≤ p ∧ p ≤ 127) :
    Calls Tryd.prog 3 #[.agg s.row, .agg #[.int .i8 ax, .bool d, .int .i8 p]] w fun o w' => o = .returned (.bool true) ∧ Below w.heap.size w w' := by
  cases ho : okI s
  · exact ponL_walk s ax d p Sh.zero 0 1 e w hE (fun w => specPO_err s ax d p w hf hax hap 1 (by unfold askC; rw [ho]; rfl) rfl) (fun w hE => impl1 s ax d p e hf w hE _ _ _ (.inl ⟨ho, rfl, rfl, rfl⟩))
  · cases hk : foldOk s ax d p
    · exact ponL_walk s ax d p Sh.zero 0 2 e w hE (fun w => specPO_err s ax d p w hf hax hap 2 (by unfold askC; rw [ho, hk]; rfl) rfl) (fun w hE => impl1 s ax d p e hf w hE _ _ _ (.inr (.inl ⟨ho, hk, rfl, rfl, rfl⟩)))
    · obtain ⟨a, c, ea, ec, ha, hc⟩ := fitW s ho
      have hask : askC (okI s) (foldOk s ax d p) true = 0 := by unfold askC; rw [ho, hk]; rfl
      have hb := foldOk_bd ho hk
      exact ponL_walk s ax d p _ _ 0 e w hE (fun w => specPO_ok s ax d p w hf hax hap a c (bdP_ok ho) ea ec ha hc hask hb.1 (by omega)) (fun w hE => impl1 s ax d p e hf w hE _ _ _ (.inr (.inr ⟨ho, hk, a, c, ea, ec, ha, hc, by rw [prF_one], by rw [prF_one], rfl⟩)))
end Go.Proofs.YtmcpaangofdmpaaDoor
