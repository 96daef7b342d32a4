import Derived.Carry
import Derived.Test.YtfgcpiipndhllaaDoorLiftM
namespace Go.Proofs.YtfgcpiipndhllaaDoor
open Go.RowKit
set_option maxRecDepth 100000
set_option linter.unusedVariables false
set_option linter.unusedSimpArgs false
/-- a function value of portions: its map lies in block q -/
abbrev pfn (q : Nat) : Value := .func (Fn.func 172) #[] #[.pointer (some ⟨q, 0, none⟩)]
theorem portions_any (w : World) : Calls Tryd.prog 131 #[] w fun e w' => (∃ q, e = .returned (pfn q)) ∧ Below w.heap.size w w' := by
  go_enter Tryd.func131, Tryd.ntmps131
  go_wp2
  rw [run_makeMap]
  go_wp2
  go_ret
  exact ⟨⟨_, rfl⟩, (((Below.refl w.heap.size w).alloc (by simp <;> omega) _).alloc (by simp <;> omega) _)⟩
def stAt (b : Br) (s : Sh) (f : Value) (i : Nat) : Value := if i < 5 then b.at i else if i < 271 then s.at (i - 5) else f
theorem stAt_b (b : Br) (s : Sh) (f : Value) : vrow 5 (fun i => stAt b s f (0 + i)) = vrow 5 b.at := vrow_ext _ _ _ fun i hi => by unfold stAt; rw [Nat.zero_add, if_pos hi]
theorem stAt_s (b : Br) (s : Sh) (f : Value) : vrow 266 (fun i => stAt b s f (5 + i)) = vrow 266 s.at := vrow_ext _ _ _ fun i hi => by
  unfold stAt; rw [if_neg (by omega), if_pos (by omega), show 5 + i - 5 = i by omega]
theorem stAt_one (b : Br) (s : Sh) (q : Nat) (i : Nat) : (stAt b s (pfn q) i).oneCell' = true := by
  unfold stAt
  split
  · exact b.one i
  · split
    · exact s.one _
    · rfl
theorem size_st : (Tryd.prog.info? 134).map (·.size) = some 272 := by kernel_rfl
theorem zero_st : ∀ w, (zeroValue 134).run Tryd.prog w = .ok (.agg (vrow 272 (stAt Br.zero Sh.zero .nilFunc))) w := fun _ => by kernel_rfl
theorem built_st (b : Br) (s : Sh) (q : Nat) : Tryd.prog.built 134 [(0, .agg (vrow 5 b.at)), (1, .agg (vrow 266 s.at)), (2, pfn q)] = some (vrow 272 (stAt b s (pfn q))) := by kernel_rfl
theorem stAt_dye (b : Br) (s : Sh) (f : Value) (k : Nat) (hk : k < 3) (v : Int) : vrow 272 (over (stAt b s f) k 1 fun _ => .int .i16 v) = vrow 272 (stAt (b.setDye k v) s f) := vrow_ext _ _ _ fun i hi => by
  unfold over stAt
  by_cases h : i = k
  · subst h; rw [if_pos (by omega), if_pos (by omega)]; unfold Br.at Br.setDye; rw [if_pos hk]; simp
  · rw [if_neg (by omega)]
    by_cases h5 : i < 5
    · rw [if_pos h5, if_pos h5]; unfold Br.at Br.setDye; dsimp only
      by_cases h3 : i < 3
      · rw [if_pos h3, if_pos h3, if_neg h]
      · rw [if_neg h3, if_neg h3]
    · rw [if_neg h5, if_neg h5]
theorem stAt_put (b : Br) (s : Sh) (f : Value) (o j : Nat) (ho : o = 71 + j) (hj : j < 192) (v : Int) : vrow 272 (over (stAt b s f) o 1 fun _ => .int .i16 v) = vrow 272 (stAt b (s.put j v) f) := vrow_ext _ _ _ fun i hi => by
  subst ho
  have key := congrArg (fun a : Array Value => a[i - 5]?) (s.put_at (66 + j) j rfl hj v)
  unfold over stAt
  by_cases h5 : i < 5
  · rw [if_neg (by omega), if_pos h5, if_pos h5]
  · by_cases h2 : i < 271
    · simp only [vrow_get 266 _ (i - 5) (show i - 5 < 266 by omega), Option.some.injEq] at key
      rw [if_neg h5, if_pos h2, if_neg h5, if_pos h2, ← key]
      unfold over
      by_cases h : i = 71 + j
      · subst h; rw [if_pos (by omega), if_pos (by omega)]
      · rw [if_neg (by omega), if_neg (by omega)]
    · rw [if_neg (by omega), if_neg h5, if_neg h2, if_neg h5, if_neg h2]
end Go.Proofs.YtfgcpiipndhllaaDoor
