import Derived.Test.YtfhfiaphdgfmnaaQ
import Derived.Test.YtfhfiaphdgfmnaaEqSheet
import Derived.Test.YtfhfiaphdgfmnaaOpen
import Derived.Test.YtfhfiaphdgfmnaaSheet
namespace Go.Proofs.Ytfhfiaphdgfmnaa
open Go.RowKit
set_option maxRecDepth 100000
set_option linter.unusedVariables false
theorem rw_lsheet : (Try.prog.underlying 42).map (·.isRow) = some true := by kernel_rfl
def Det (m : Sem Bool) : Prop := ∃ v, ∀ w, m.run Try.prog w = .ok v w
theorem part_one {e : TypeId} (he : (Try.prog.underlying e).map (·.isRow) = some false) {n : Nat} {f : Nat → Value} {off : Nat} (h : off < n) (w : World) : (part e (vrow n f) off).run Try.prog w = .ok (f off) w := by
  obtain ⟨d, hu, hd⟩ := Option.map_eq_some_iff.1 he
  have ha := run_isAgg_row w e d hu
  rw [hd] at ha
  have hg : (vrow n f)[off]? = some (f off) := by simp [vrow, h]
  simp only [part, Sem.run_bind, ha, Result.andThen_ok, Bool.false_eq_true, if_false, hg, Sem.run_pure]
theorem part_many {e : TypeId} (he : (Try.prog.underlying e).map (·.isRow) = some true) {m : Nat} (hs : (Try.prog.info? e).map (·.size) = some m) (hc : Try.prog.cellsOf e = m) {n : Nat} {f : Nat → Value} {off : Nat} (h : off + m ≤ n) (w : World) : (part e (vrow n f) off).run Try.prog w = .ok (.agg (vrow m fun i => f (off + i))) w := by
  obtain ⟨d, hu, hd⟩ := Option.map_eq_some_iff.1 he
  obtain ⟨i, hi, _⟩ := Option.map_eq_some_iff.1 hs
  have ha := run_isAgg_row w e d hu
  rw [hd] at ha
  have hg : (vrow n f).extract off (off + m) = vrow m fun i => f (off + i) := by
    apply Array.ext
    · simp [vrow]; omega
    · intro j h1 h2; simp [vrow]
  simp only [part, Sem.run_bind, ha, Result.andThen_ok, if_true, run_sizeOf w hi, hc, hg, Sem.run_pure]
theorem det_items (dd : Nat) (e : TypeId) (c : Nat) (xs ys : Array Value) : ∀ is : List Nat, (∀ i ∈ is, ∃ a b, (∀ w, (part e xs (i * c)).run Try.prog w = .ok a w) ∧ (∀ w, (part e ys (i * c)).run Try.prog w = .ok b w) ∧ Det (Op.equalIn dd e a b)) → Det (Op.eqItems dd e c xs ys is)
  | [], _ => ⟨true, fun w => by simp [Op.eqItems]⟩
  | i :: is, h => by
    obtain ⟨a, b, p1, p2, v, p3⟩ := h i (by simp)
    obtain ⟨r, hr⟩ := det_items dd e c xs ys is (fun j hj => h j (by simp [hj]))
    cases v
    · exact ⟨false, fun w => by simp [Op.eqItems, Sem.run_bind, p1, p2, p3]⟩
    · exact ⟨r, fun w => by simp [Op.eqItems, Sem.run_bind, p1, p2, p3, hr]⟩
theorem det_fields (dd : Nat) (xs ys : Array Value) : ∀ fs : List Field, (∀ f ∈ fs, f.name ≠ "_" ∧ ∃ a b, (∀ w, (part f.type xs f.offset).run Try.prog w = .ok a w) ∧ (∀ w, (part f.type ys f.offset).run Try.prog w = .ok b w) ∧ Det (Op.equalIn dd f.type a b)) → Det (Op.eqFields dd xs ys fs)
  | [], _ => ⟨true, fun w => by simp [Op.eqFields]⟩
  | f :: fs, h => by
    obtain ⟨hn, a, b, p1, p2, v, p3⟩ := h f (by simp)
    obtain ⟨r, hr⟩ := det_fields dd xs ys fs (fun j hj => h j (by simp [hj]))
    cases v
    · exact ⟨false, fun w => by simp [Op.eqFields, hn, Sem.run_bind, p1, p2, p3]⟩
    · exact ⟨r, fun w => by simp [Op.eqFields, hn, Sem.run_bind, p1, p2, p3, hr]⟩
/-- a row of integers of one kind -/
def IntRow (k : IntKind) (n : Nat) (f : Nat → Value) : Prop := ∀ i, i < n → ∃ x, f i = .int k x
theorem det_int (d : Nat) {e : TypeId} {k : IntKind} (hu : Try.prog.underlying e = some (.int k)) (x y : Int) : Det (Op.equalIn (d + 1) e (.int k x) (.int k y)) := ⟨x == y, fun w => run_equalIn_int w d e k k x y hu⟩
theorem det_arr1 (d : Nat) {t e : TypeId} {k : IntKind} {n : Nat} (hu : Try.prog.underlying t = some (.array n e)) (hk : Try.prog.underlying e = some (.int k)) (hs : (Try.prog.info? e).map (·.size) = some 1) (hc : Try.prog.cellsOf e = 1) {f g : Nat → Value} (hf : IntRow k n f) (hg : IntRow k n g) : Det (Op.equalIn (d + 2) t (.agg (vrow n f)) (.agg (vrow n g))) := by
  obtain ⟨i, hi, _⟩ := Option.map_eq_some_iff.1 hs
  obtain ⟨r, hr⟩ := det_items (d + 1) e (Try.prog.cellsOf e) (vrow n f) (vrow n g) (List.range n) (fun i hi => by
    have hi' : i < n := by simpa using hi
    obtain ⟨x, hx⟩ := hf i hi'
    obtain ⟨y, hy⟩ := hg i hi'
    have he : (Try.prog.underlying e).map (·.isRow) = some false := by rw [hk]; rfl
    refine ⟨f i, g i, fun w => by rw [hc, Nat.mul_one]; exact part_one he hi' w, fun w => by rw [hc, Nat.mul_one]; exact part_one he hi' w, ?_⟩
    rw [hx, hy]
    exact det_int d hk x y)
  exact ⟨r, fun w => (run_equalIn_array w (d + 1) _ _ hu hi).trans (hr w)⟩
theorem det_arr (d : Nat) {t e : TypeId} {n m : Nat} (hu : Try.prog.underlying t = some (.array n e)) (he : (Try.prog.underlying e).map (·.isRow) = some true) (hs : (Try.prog.info? e).map (·.size) = some m) (hc : Try.prog.cellsOf e = m) {f g : Nat → Value} {N : Nat} (hN : N = n * m)
    (h : ∀ o, o + m ≤ N → Det (Op.equalIn d e (.agg (vrow m fun i => f (o + i))) (.agg (vrow m fun i => g (o + i))))) : Det (Op.equalIn (d + 1) t (.agg (vrow N f)) (.agg (vrow N g))) := by
  subst hN
  obtain ⟨i, hi, _⟩ := Option.map_eq_some_iff.1 hs
  obtain ⟨r, hr⟩ := det_items d e (Try.prog.cellsOf e) (vrow (n * m) f) (vrow (n * m) g) (List.range n) (fun i hi => by
    have hi' : i < n := by simpa using hi
    have hb : i * m + m ≤ n * m := by
      have := Nat.mul_le_mul_right m (show i + 1 ≤ n by omega)
      rw [Nat.add_mul, Nat.one_mul] at this
      exact this
    exact ⟨_, _, fun w => by rw [hc]; exact part_many he hs hc hb w, fun w => by rw [hc]; exact part_many he hs hc hb w, h _ hb⟩)
  exact ⟨r, fun w => (run_equalIn_array w d _ _ hu hi).trans (hr w)⟩
theorem IntRow.drop {k : IntKind} {n m : Nat} {f : Nat → Value} (h : IntRow k n f) {o : Nat} (ho : o + m ≤ n) : IntRow k m fun i => f (o + i) := fun i hi => h (o + i) (by omega)
theorem cell_i16 : Try.prog.cellsOf 32 = 1 := by kernel_rfl
theorem cell_u8 : Try.prog.cellsOf 5 = 1 := by kernel_rfl
theorem cell_r8 : Try.prog.cellsOf 33 = 8 := by kernel_rfl
theorem cell_d3 : Try.prog.cellsOf 35 = 3 := by kernel_rfl
theorem cell_r64 : Try.prog.cellsOf 34 = 64 := by kernel_rfl
theorem cell_d192 : Try.prog.cellsOf 37 = 192 := by kernel_rfl
theorem cell_x8 : Try.prog.cellsOf 38 = 8 := by kernel_rfl
theorem cell_d24 : Try.prog.cellsOf 36 = 24 := by kernel_rfl
theorem sz1_i16 : (Try.prog.info? 32).map (·.size) = some 1 := by kernel_rfl
theorem sz1_u8 : (Try.prog.info? 5).map (·.size) = some 1 := by kernel_rfl
theorem rwr_r8 : (Try.prog.underlying 33).map (·.isRow) = some true := by kernel_rfl
theorem rwr_d24 : (Try.prog.underlying 36).map (·.isRow) = some true := by kernel_rfl
theorem rwr_r64 : (Try.prog.underlying 34).map (·.isRow) = some true := by kernel_rfl
theorem rwr_d192 : (Try.prog.underlying 37).map (·.isRow) = some true := by kernel_rfl
theorem rwr_x8 : (Try.prog.underlying 38).map (·.isRow) = some true := by kernel_rfl
theorem det_wet (d : Nat) (f g : Nat → Value) (hf : IntRow .i16 64 f) (hg : IntRow .i16 64 g) : Det (Op.equalIn (d + 3) 34 (.agg (vrow 64 f)) (.agg (vrow 64 g))) :=
  det_arr (d + 2) Try.underlying34 rwr_r8 size_r8 cell_r8 rfl fun o ho => det_arr1 d Try.underlying33 Try.underlying32 sz1_i16 cell_i16 (hf.drop ho) (hg.drop ho)
theorem det_dye (d : Nat) (f g : Nat → Value) (hf : IntRow .i16 192 f) (hg : IntRow .i16 192 g) : Det (Op.equalIn (d + 4) 37 (.agg (vrow 192 f)) (.agg (vrow 192 g))) :=
  det_arr (d + 3) Try.underlying37 rwr_d24 size_d24 cell_d24 rfl fun o ho =>
    det_arr (d + 2) (f := fun i => f (o + i)) (g := fun i => g (o + i)) Try.underlying36 rw_d3 size_d3 cell_d3 rfl fun o' ho' => det_arr1 d Try.underlying35 Try.underlying32 sz1_i16 cell_i16 ((hf.drop ho).drop ho') ((hg.drop ho).drop ho')
theorem det_wax (d : Nat) (f g : Nat → Value) (hf : IntRow .u8 8 f) (hg : IntRow .u8 8 g) : Det (Op.equalIn (d + 2) 38 (.agg (vrow 8 f)) (.agg (vrow 8 g))) := det_arr1 d Try.underlying38 Try.underlying5 sz1_u8 cell_u8 hf hg
theorem at_wets (s : Sh) : IntRow .i16 64 fun i => s.at (2 + i) := fun i hi => ⟨_, s.at_wet1 (2 + i) i rfl hi⟩
theorem at_dyes (s : Sh) : IntRow .i16 192 fun i => s.at (66 + i) := fun i hi => ⟨_, s.at_dye1 (66 + i) i rfl hi⟩
theorem at_waxs (s : Sh) : IntRow .u8 8 fun i => s.at (258 + i) := fun i hi => ⟨_, s.at_wax1 i hi⟩
theorem fields_sheet : (Try.prog.fieldsOf 40).toList.map (fun f => (f.name, f.type, f.offset)) = [("Wide", 31, 0), ("High", 31, 1), ("Wet", 34, 2), ("Dye", 37, 66), ("Wax", 38, 258)] := by kernel_rfl
theorem und_sheet : Try.prog.underlying 40 = some (.struct (Try.prog.fieldsOf 40)) := by kernel_rfl
theorem stood_sheet : Try.prog.stoodInHeld 40 = false := by kernel_rfl
theorem det_sheet (a b : Sh) : Det (Op.equalIn 10000 40 (.agg a.row) (.agg b.row)) := by
  obtain ⟨r, hr⟩ := det_fields 9999 a.row b.row (Try.prog.fieldsOf 40).toList (fun f hf => by
    have hm : (f.name, f.type, f.offset) ∈ [("Wide", 31, 0), ("High", 31, 1), ("Wet", 34, 2), ("Dye", 37, 66), ("Wax", 38, 258)] := by
      rw [← fields_sheet]; exact List.mem_map_of_mem hf
    simp only [List.mem_cons, List.not_mem_nil, or_false, Prod.mk.injEq] at hm
    rcases hm with ⟨h1, h2, h3⟩ | ⟨h1, h2, h3⟩ | ⟨h1, h2, h3⟩ | ⟨h1, h2, h3⟩ | ⟨h1, h2, h3⟩ <;> rw [h1, h2, h3] <;> refine ⟨by decide, ?_⟩
    · exact ⟨_, _, part_one rw_i8 (by omega), part_one rw_i8 (by omega), det_int 9998 Try.underlying31 a.wide b.wide⟩
    · exact ⟨_, _, part_one rw_i8 (by omega), part_one rw_i8 (by omega), det_int 9998 Try.underlying31 a.high b.high⟩
    · exact ⟨_, _, part_many rwr_r64 size_r64 cell_r64 (by omega), part_many rwr_r64 size_r64 cell_r64 (by omega), det_wet 9996 _ _ (at_wets a) (at_wets b)⟩
    · exact ⟨_, _, part_many rwr_d192 size_d192 cell_d192 (by omega), part_many rwr_d192 size_d192 cell_d192 (by omega), det_dye 9995 _ _ (at_dyes a) (at_dyes b)⟩
    · exact ⟨_, _, part_many rwr_x8 size_x8 cell_x8 (by omega), part_many rwr_x8 size_x8 cell_x8 (by omega), det_wax 9997 _ _ (at_waxs a) (at_waxs b)⟩)
  exact ⟨r, fun w => (run_equalIn_struct w 9999 _ _ _ und_sheet stood_sheet).trans (hr w)⟩
end Go.Proofs.Ytfhfiaphdgfmnaa
