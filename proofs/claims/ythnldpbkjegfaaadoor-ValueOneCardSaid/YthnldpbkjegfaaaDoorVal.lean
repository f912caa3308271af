/-
  Package value: what each function comes to, for all arguments.
-/
import Derived.Test.YthnldpbkjegfaaaDoorTb
import Derived.Test.YthnldpbkjegfaaaDoorProg
import Derived.Test.YthnldpbkjegfaaaDoorSe
set_option linter.unusedVariables false
set_option linter.unusedSimpArgs false
noncomputable section
namespace Go.Proofs.YthnldpbkjegfaaaDoor
open Go Go.RowKit Go.Proofs Go.Proofs.YthnldpbkjegfaaaDoor.Sv
/-- a value: its Kind, its number, its text -/
structure Vl where
  k : Int
  n : Int
  t : List UInt8
deriving DecidableEq
def Vl.v (x : Vl) : V := .agg [.si .u8 x.k, .si .i64 x.n, .ss x.t]
def tVl : Ty Vl where
  to v := match v with
    | .agg [a, b, c] => match a.asI, b.asI, c.asS with
      | some (.u8, k), some (.i64, n), some t => some ⟨k, n, t⟩
      | _, _, _ => none
    | _ => none
  of x := x.v
  ok v a h fz z r := by
    split at h
    · split at h <;> cases h
      rename_i a b c _ _ _ k n t ha hb hc
      simp only [Vl.v, RV, RVs] at r ⊢
      obtain ⟨ar, e, x, l, e1, h1, y, l2, e2, h2, w, l3, e3, h3, e4⟩ := r
      exact ⟨ar, e, x, l, e1, asI_sound ha h1, y, l2, e2, asI_sound hb h2, w, l3, e3, asS_sound hc h3, e4⟩
    · cases h
def zv : Vl := ⟨0, 0, []⟩
def vNum (n : Int) : Vl := ⟨1, n, []⟩
def vTruth (b : Bool) : Vl := ⟨2, if b then 1 else 0, []⟩
def vText (t : List UInt8) : Vl := ⟨3, 0, t⟩
def vYes (x : Vl) : Bool := decide (x.k = 2) && decide (x.n ≠ 0)
def inI (n : Int) : Bool := decide (-9223372036854775808 ≤ n) && decide (n ≤ 9223372036854775807)
theorem inI_iff {n : Int} : inI n = true ↔ I64 n := by simp [inI, I64]
theorem inI_false {n : Int} (h : ¬ I64 n) : inI n = false := by rw [Bool.eq_false_iff]; exact fun e => h (inI_iff.1 e)
/-- a value, and an error -/
def VE (p : Vl × Int) : V := .tuple [p.1.v, .si .i64 p.2]
def vTold (n : Int) : Vl × Int := if inI n then (vNum n, 0) else (zv, 20)
theorem vTold_yes {n : Int} (h : I64 n) : vTold n = (vNum n, 0) := by unfold vTold; rw [if_pos (inI_iff.2 h)]
theorem vTold_no {n : Int} (h : ¬ I64 n) : vTold n = (zv, 20) := by unfold vTold; rw [if_neg (by rw [inI_false h]; simp)]
theorem wrap_cases (n : Int) : (I64 n ∧ IntKind.i64.wrap n = n) ∨ (¬ I64 n ∧ IntKind.i64.wrap n ≠ n) := by
  by_cases h : I64 n
  · exact .inl ⟨h, wrap_i64 h⟩
  · refine .inr ⟨h, fun e => h ?_⟩
    rw [IntKind.wrap_i64] at e; unfold I64; omega
theorem bs0 : bs { data := #[] } = [] := rfl
noncomputable def es_num : List Ent := []
theorem es_num_ok : EntsOk Tryd.prog tabS es_num := trivial
set_option maxRecDepth 100000 in
theorem num_vc (n : Int) :
    ((1 : Int) = (vNum n).k ∧ n = (vNum n).n ∧ List.map UInt8.ofNat (bs { data := #[] }) = (vNum n).t ∧ True) →
    vcF Tryd.prog tabS (specs es_num) [] (noAnn) Tryd.f15 [.si .i64 n] ((vNum n).v) := fun h => Eq.mpr (by kernel_rfl) h
set_option maxRecDepth 100000 in
theorem num_ct (n : Int)  : Ct Tryd.prog tabS 15 [.si .i64 n] ((vNum n).v) := Ct.of_vcF (specs_ok es_num_ok) Tryd.func15 (by kernel_rfl) (num_vc n (by
  simp [vNum, bs0]))
noncomputable def e_num : Ent := ent1 15 (tI .i64) (fun _ => True) (fun n => (vNum n).v)
theorem num_ok : e_num.ok Tryd.prog tabS := ent1_ok fun n _ => num_ct n
noncomputable def es_truth : List Ent := []
theorem es_truth_ok : EntsOk Tryd.prog tabS es_truth := trivial
set_option maxRecDepth 100000 in
theorem truth_vc (b : Bool) :
    ((b = true → (2 : Int) = (vTruth b).k ∧ (1 : Int) = (vTruth b).n ∧ List.map UInt8.ofNat (bs { data := #[] }) = (vTruth b).t ∧ True) ∧ (b = false → (2 : Int) = (vTruth b).k ∧ (0 : Int) = (vTruth b).n ∧ List.map UInt8.ofNat (bs { data := #[] }) = (vTruth b).t ∧ True)) →
    vcF Tryd.prog tabS (specs es_truth) [] (noAnn) Tryd.f17 [.sb b] ((vTruth b).v) := fun h => Eq.mpr (by kernel_rfl) h
set_option maxRecDepth 100000 in
theorem truth_ct (b : Bool)  : Ct Tryd.prog tabS 17 [.sb b] ((vTruth b).v) := Ct.of_vcF (specs_ok es_truth_ok) Tryd.func17 (by kernel_rfl) (truth_vc b (by
  simp (config := {contextual := true}) [vTruth, bs0]))
noncomputable def e_truth : Ent := ent1 17 tB (fun _ => True) (fun b => (vTruth b).v)
theorem truth_ok : e_truth.ok Tryd.prog tabS := ent1_ok fun b _ => truth_ct b
noncomputable def es_text : List Ent := []
theorem es_text_ok : EntsOk Tryd.prog tabS es_text := trivial
set_option maxRecDepth 100000 in
theorem text_vc (t : List UInt8) :
    ((3 : Int) = (vText t).k ∧ (0 : Int) = (vText t).n ∧ t = (vText t).t ∧ True) →
    vcF Tryd.prog tabS (specs es_text) [] (noAnn) Tryd.f24 [.ss t] ((vText t).v) := fun h => Eq.mpr (by kernel_rfl) h
set_option maxRecDepth 100000 in
theorem text_ct (t : List UInt8)  : Ct Tryd.prog tabS 24 [.ss t] ((vText t).v) := Ct.of_vcF (specs_ok es_text_ok) Tryd.func24 (by kernel_rfl) (text_vc t (by
  simp [vText]))
noncomputable def e_text : Ent := ent1 24 tS (fun _ => True) (fun t => (vText t).v)
theorem text_ok : e_text.ok Tryd.prog tabS := ent1_ok fun t _ => text_ct t
noncomputable def es_yes : List Ent := []
theorem es_yes_ok : EntsOk Tryd.prog tabS es_yes := trivial
set_option maxRecDepth 100000 in
theorem yes_vc (x : Vl) :
    ((decide (x.k = (2 : Int)) = true → (!decide (x.n = (0 : Int))) = vYes x) ∧ (decide (x.k = (2 : Int)) = false → false = vYes x)) →
    vcF Tryd.prog tabS (specs es_yes) [] (noAnn) Tryd.f11 [x.v] (.sb (vYes x)) := fun h => Eq.mpr (by kernel_rfl) h
set_option maxRecDepth 100000 in
theorem yes_ct (x : Vl)  : Ct Tryd.prog tabS 11 [x.v] (.sb (vYes x)) := Ct.of_vcF (specs_ok es_yes_ok) Tryd.func11 (by kernel_rfl) (yes_vc x (by
  by_cases h : x.k = 2 <;> simp [vYes, h]))
noncomputable def e_yes : Ent := ent1 11 tVl (fun _ => True) (fun x => .sb (vYes x))
theorem yes_ok : e_yes.ok Tryd.prog tabS := ent1_ok fun x _ => yes_ct x
noncomputable def es_plus : List Ent := [e_num]
theorem es_plus_ok : EntsOk Tryd.prog tabS es_plus := ⟨num_ok, trivial⟩
set_option maxRecDepth 100000 in
theorem plus_vc (a b : Int) :
    (((!decide (a < IntKind.i64.wrap (a + b)) == decide ((0 : Int) < b)) = true → ((0 : Int) = (vTold (a + b)).fst.k ∧ (0 : Int) = (vTold (a + b)).fst.n ∧ List.map UInt8.ofNat (bs { data := #[] }) = (vTold (a + b)).fst.t ∧ True) ∧ (20 : Int) = (vTold (a + b)).snd ∧ True) ∧ ((!decide (a < IntKind.i64.wrap (a + b)) == decide ((0 : Int) < b)) = false → True ∧ ((vNum (IntKind.i64.wrap (a + b))).k = (vTold (a + b)).fst.k ∧ (vNum (IntKind.i64.wrap (a + b))).n = (vTold (a + b)).fst.n ∧ (vNum (IntKind.i64.wrap (a + b))).t = (vTold (a + b)).fst.t ∧ True) ∧ (0 : Int) = (vTold (a + b)).snd ∧ True)) →
    vcF Tryd.prog tabS (specs es_plus) [] (noAnn) Tryd.f44 [.si .i64 a, .si .i64 b] (VE (vTold (a + b))) := fun h => Eq.mpr (by kernel_rfl) h
set_option maxRecDepth 100000 in
theorem plus_ct (a b : Int) (ha : I64 a) (hb : I64 b) : Ct Tryd.prog tabS 44 [.si .i64 a, .si .i64 b] (VE (vTold (a + b))) := Ct.of_vcF (specs_ok es_plus_ok) Tryd.func44 (by kernel_rfl) (plus_vc a b (by
  simp only [true_and, and_true, bs0, List.map_nil]
  have hw : (a < IntKind.i64.wrap (a + b) ↔ 0 < b) ↔ I64 (a + b) := by
    rcases wrap_cases (a + b) with ⟨h, e⟩ | ⟨h, e⟩
    · rw [e]; exact ⟨fun _ => h, fun _ => by omega⟩
    · refine ⟨fun h2 => absurd ?_ h, fun h2 => absurd h2 h⟩
      rw [IntKind.wrap_i64] at h2 e; unfold I64 at *; omega
  have hb2 : (!decide (a < IntKind.i64.wrap (a + b)) == decide (0 < b)) = !inI (a + b) := by
    by_cases h : I64 (a + b)
    · have h2 := hw.2 h
      rw [inI_iff.2 h]
      by_cases h3 : 0 < b <;> simp [h2, h3]
    · rw [inI_false h]
      have h2 : ¬ (a < IntKind.i64.wrap (a + b) ↔ 0 < b) := fun e => h (hw.1 e)
      by_cases h3 : 0 < b <;> by_cases h4 : a < IntKind.i64.wrap (a + b) <;> simp_all
  rw [hb2]
  refine ⟨fun h => ?_, fun h => ?_⟩
  · have hn : ¬ I64 (a + b) := fun e => by rw [inI_iff.2 e] at h; cases h
    rw [vTold_no hn]; exact ⟨⟨rfl, rfl, rfl⟩, rfl⟩
  · have hn : I64 (a + b) := inI_iff.1 (by simpa using h)
    rw [vTold_yes hn, wrap_i64 hn]; exact ⟨⟨rfl, rfl, rfl⟩, rfl⟩))
noncomputable def e_plus : Ent := ent2 44 (tI .i64) (tI .i64) (fun a b => I64 a ∧ I64 b) (fun a b => VE (vTold (a + b)))
theorem plus_ok : e_plus.ok Tryd.prog tabS := ent2_ok fun a b h => plus_ct a b h.1 h.2
noncomputable def es_minus : List Ent := [e_num]
theorem es_minus_ok : EntsOk Tryd.prog tabS es_minus := ⟨num_ok, trivial⟩
set_option maxRecDepth 100000 in
theorem minus_vc (a b : Int) :
    (((!decide (IntKind.i64.wrap (a - b) < a) == decide ((0 : Int) < b)) = true → ((0 : Int) = (vTold (a - b)).fst.k ∧ (0 : Int) = (vTold (a - b)).fst.n ∧ List.map UInt8.ofNat (bs { data := #[] }) = (vTold (a - b)).fst.t ∧ True) ∧ (20 : Int) = (vTold (a - b)).snd ∧ True) ∧ ((!decide (IntKind.i64.wrap (a - b) < a) == decide ((0 : Int) < b)) = false → True ∧ ((vNum (IntKind.i64.wrap (a - b))).k = (vTold (a - b)).fst.k ∧ (vNum (IntKind.i64.wrap (a - b))).n = (vTold (a - b)).fst.n ∧ (vNum (IntKind.i64.wrap (a - b))).t = (vTold (a - b)).fst.t ∧ True) ∧ (0 : Int) = (vTold (a - b)).snd ∧ True)) →
    vcF Tryd.prog tabS (specs es_minus) [] (noAnn) Tryd.f21 [.si .i64 a, .si .i64 b] (VE (vTold (a - b))) := fun h => Eq.mpr (by kernel_rfl) h
set_option maxRecDepth 100000 in
theorem minus_ct (a b : Int) (ha : I64 a) (hb : I64 b) : Ct Tryd.prog tabS 21 [.si .i64 a, .si .i64 b] (VE (vTold (a - b))) := Ct.of_vcF (specs_ok es_minus_ok) Tryd.func21 (by kernel_rfl) (minus_vc a b (by
  simp only [true_and, and_true, bs0, List.map_nil]
  have hw : (IntKind.i64.wrap (a - b) < a ↔ 0 < b) ↔ I64 (a - b) := by
    rcases wrap_cases (a - b) with ⟨h, e⟩ | ⟨h, e⟩
    · rw [e]; exact ⟨fun _ => h, fun _ => by omega⟩
    · refine ⟨fun h2 => absurd ?_ h, fun h2 => absurd h2 h⟩
      rw [IntKind.wrap_i64] at h2 e; unfold I64 at *; omega
  have hb2 : (!decide (IntKind.i64.wrap (a - b) < a) == decide (0 < b)) = !inI (a - b) := by
    by_cases h : I64 (a - b)
    · have h2 := hw.2 h
      rw [inI_iff.2 h]
      by_cases h3 : 0 < b <;> simp [h2, h3]
    · rw [inI_false h]
      have h2 : ¬ (IntKind.i64.wrap (a - b) < a ↔ 0 < b) := fun e => h (hw.1 e)
      by_cases h3 : 0 < b <;> by_cases h4 : IntKind.i64.wrap (a - b) < a <;> simp_all
  rw [hb2]
  refine ⟨fun h => ?_, fun h => ?_⟩
  · have hn : ¬ I64 (a - b) := fun e => by rw [inI_iff.2 e] at h; cases h
    rw [vTold_no hn]; exact ⟨⟨rfl, rfl, rfl⟩, rfl⟩
  · have hn : I64 (a - b) := inI_iff.1 (by simpa using h)
    rw [vTold_yes hn, wrap_i64 hn]; exact ⟨⟨rfl, rfl, rfl⟩, rfl⟩))
noncomputable def e_minus : Ent := ent2 21 (tI .i64) (tI .i64) (fun a b => I64 a ∧ I64 b) (fun a b => VE (vTold (a - b)))
theorem minus_ok : e_minus.ok Tryd.prog tabS := ent2_ok fun a b h => minus_ct a b h.1 h.2
theorem times_key (a b : Int) (ha : I64 a) (hb : I64 b) (ha0 : a ≠ 0) (hb0 : b ≠ 0) :
    (I64 (a * b) ∧ IntKind.i64.wrap ((a * b).tdiv b) = a ∧ ¬ (b = -1 ∧ a = -9223372036854775808)) ∨
    (¬ I64 (a * b) ∧ (IntKind.i64.wrap ((IntKind.i64.wrap (a * b)).tdiv b) ≠ a ∨ (b = -1 ∧ a = -9223372036854775808))) := by
  by_cases h : I64 (a * b)
  · left
    refine ⟨h, ?_, ?_⟩
    · rw [Int.mul_tdiv_cancel _ hb0, wrap_i64 ha]
    · rintro ⟨rfl, rfl⟩; unfold I64 at h; omega
  · right
    refine ⟨h, ?_⟩
    by_cases hc : b = -1 ∧ a = -9223372036854775808
    · exact .inr hc
    · left
      intro e
      apply h
      generalize hcw : IntKind.i64.wrap (a * b) = c at e
      have hcI : I64 c := by rw [← hcw, IntKind.wrap_i64]; unfold I64; omega
      have hcm : (a * b - c) % 18446744073709551616 = 0 := by rw [← hcw, IntKind.wrap_i64]; omega
      by_cases hb1 : b = -1
      · subst hb1
        have ham : a ≠ -9223372036854775808 := fun e2 => hc ⟨rfl, e2⟩
        unfold I64 at *; omega
      · -- c / b = a, so c is within |b| of a * b
        have hq : I64 (c.tdiv b) := by
          have h1 : (c.tdiv b).natAbs ≤ c.natAbs := by rw [Int.natAbs_tdiv]; exact Nat.div_le_self _ _
          unfold I64 at *
          by_cases hb2 : b = 1
          · subst hb2; rw [Int.tdiv_one]; exact hcI
          · have h2 : (c.tdiv b).natAbs ≤ c.natAbs / 2 := by
              rw [Int.natAbs_tdiv]; exact Nat.div_le_div_left (by omega) (by omega)
            omega
        rw [wrap_i64 hq] at e
        have h3 : b * (c.tdiv b) + c.tmod b = c := Int.mul_tdiv_add_tmod c b
        rw [e] at h3
        have h4 : (c.tmod b).natAbs < b.natAbs := by
          rw [Int.natAbs_tmod]; exact Nat.mod_lt _ (by omega)
        have h5 : a * b - c = - c.tmod b := by rw [Int.mul_comm a b]; omega
        have h6 : a * b = c := by unfold I64 at *; omega
        rw [h6]; exact hcI
noncomputable def es_times : List Ent := [e_num]
theorem es_times_ok : EntsOk Tryd.prog tabS es_times := ⟨num_ok, trivial⟩
set_option maxRecDepth 100000 in
theorem times_vc (a b : Int) :
    ((decide (a = (0 : Int)) = true → True ∧ ((vNum (0 : Int)).k = (vTold (a * b)).fst.k ∧ (vNum (0 : Int)).n = (vTold (a * b)).fst.n ∧ (vNum (0 : Int)).t = (vTold (a * b)).fst.t ∧ True) ∧ (0 : Int) = (vTold (a * b)).snd ∧ True) ∧ (decide (a = (0 : Int)) = false → (decide (b = (0 : Int)) = true → True ∧ ((vNum (0 : Int)).k = (vTold (a * b)).fst.k ∧ (vNum (0 : Int)).n = (vTold (a * b)).fst.n ∧ (vNum (0 : Int)).t = (vTold (a * b)).fst.t ∧ True) ∧ (0 : Int) = (vTold (a * b)).snd ∧ True) ∧ (decide (b = (0 : Int)) = false → b ≠ (0 : Int) ∧ ((!decide (IntKind.i64.wrap ((IntKind.i64.wrap (a * b)).tdiv b) = a)) = true → ((0 : Int) = (vTold (a * b)).fst.k ∧ (0 : Int) = (vTold (a * b)).fst.n ∧ List.map UInt8.ofNat (bs { data := #[] }) = (vTold (a * b)).fst.t ∧ True) ∧ (20 : Int) = (vTold (a * b)).snd ∧ True) ∧ ((!decide (IntKind.i64.wrap ((IntKind.i64.wrap (a * b)).tdiv b) = a)) = false → (decide (b = (-1 : Int)) = true → (decide (a = (-9223372036854775808 : Int)) = true → ((0 : Int) = (vTold (a * b)).fst.k ∧ (0 : Int) = (vTold (a * b)).fst.n ∧ List.map UInt8.ofNat (bs { data := #[] }) = (vTold (a * b)).fst.t ∧ True) ∧ (20 : Int) = (vTold (a * b)).snd ∧ True) ∧ (decide (a = (-9223372036854775808 : Int)) = false → True ∧ ((vNum (IntKind.i64.wrap (a * b))).k = (vTold (a * b)).fst.k ∧ (vNum (IntKind.i64.wrap (a * b))).n = (vTold (a * b)).fst.n ∧ (vNum (IntKind.i64.wrap (a * b))).t = (vTold (a * b)).fst.t ∧ True) ∧ (0 : Int) = (vTold (a * b)).snd ∧ True)) ∧
      (decide (b = (-1 : Int)) = false → True ∧ ((vNum (IntKind.i64.wrap (a * b))).k = (vTold (a * b)).fst.k ∧ (vNum (IntKind.i64.wrap (a * b))).n = (vTold (a * b)).fst.n ∧ (vNum (IntKind.i64.wrap (a * b))).t = (vTold (a * b)).fst.t ∧ True) ∧ (0 : Int) = (vTold (a * b)).snd ∧ True))))) →
    vcF Tryd.prog tabS (specs es_times) [] (noAnn) Tryd.f38 [.si .i64 a, .si .i64 b] (VE (vTold (a * b))) := fun h => Eq.mpr (by kernel_rfl) h
set_option maxRecDepth 100000 in
theorem times_ct (a b : Int) (ha : I64 a) (hb : I64 b) : Ct Tryd.prog tabS 38 [.si .i64 a, .si .i64 b] (VE (vTold (a * b))) := Ct.of_vcF (specs_ok es_times_ok) Tryd.func38 (by kernel_rfl) (times_vc a b (by
  have hz : inI 0 = true := by decide
  by_cases ha0 : a = 0
  · subst ha0
    simp [vTold, vNum, hz]
  by_cases hb0 : b = 0
  · subst hb0
    simp [vTold, vNum, hz, ha0]
  have key := times_key a b ha hb ha0 hb0
  simp only [ha0, hb0, bs0, List.map_nil, decide_false, decide_true, true_and, and_true, Bool.false_eq_true, false_implies, true_implies, ne_eq, not_false_eq_true, Bool.not_eq_true', Bool.not_eq_false', reduceCtorEq, decide_eq_true_eq, decide_eq_false_iff_not]
  rcases key with ⟨h1, h2, h3⟩ | ⟨h1, h2⟩
  · have hw : IntKind.i64.wrap (a * b) = a * b := wrap_i64 h1
    rw [hw, vTold_yes h1]
    simp only [h2, not_true_eq_false, false_implies, true_implies, true_and, and_true, vNum]
    refine ⟨fun hb1 => ⟨fun hm => absurd ⟨hb1, hm⟩ h3, fun _ => trivial⟩, fun _ => trivial⟩
  · rw [vTold_no h1]
    refine ⟨fun _ => ⟨⟨rfl, rfl, rfl⟩, rfl⟩, fun h4 => ?_⟩
    rcases h2 with h2 | h2
    · exact absurd h4 h2
    · obtain ⟨rfl, rfl⟩ := h2
      simp [zv]))
noncomputable def e_times : Ent := ent2 38 (tI .i64) (tI .i64) (fun a b => I64 a ∧ I64 b) (fun a b => VE (vTold (a * b)))
theorem times_ok : e_times.ok Tryd.prog tabS := ent2_ok fun a b h => times_ct a b h.1 h.2
noncomputable def es_isType : List Ent := []
theorem es_isType_ok : EntsOk Tryd.prog tabS es_isType := trivial
set_option maxRecDepth 100000 in
theorem isType_vc (k : Int) :
    ((decide ((1 : Int) ≤ k) = true → decide (k ≤ (3 : Int)) = (decide ((1 : Int) ≤ k) && decide (k ≤ (3 : Int)))) ∧ (decide ((1 : Int) ≤ k) = false → false = (decide ((1 : Int) ≤ k) && decide (k ≤ (3 : Int))))) →
    vcF Tryd.prog tabS (specs es_isType) [] (noAnn) Tryd.f32 [.si .u8 k] (.sb (decide (1 ≤ k) && decide (k ≤ 3))) := fun h => Eq.mpr (by kernel_rfl) h
set_option maxRecDepth 100000 in
theorem isType_ct (k : Int)  : Ct Tryd.prog tabS 32 [.si .u8 k] (.sb (decide (1 ≤ k) && decide (k ≤ 3))) := Ct.of_vcF (specs_ok es_isType_ok) Tryd.func32 (by kernel_rfl) (isType_vc k (by
  by_cases h : 1 ≤ k <;> simp [h]))
noncomputable def e_isType : Ent := ent1 32 (tI .u8) (fun _ => True) (fun k => .sb (decide (1 ≤ k) && decide (k ≤ 3)))
theorem isType_ok : e_isType.ok Tryd.prog tabS := ent1_ok fun k _ => isType_ct k
/-- a value with nothing but what its Kind has -/
def vBare (x : Vl) : Vl := if x.k = 1 then vNum x.n else if x.k = 2 then vTruth (vYes x) else vText x.t
noncomputable def es_bare : List Ent := [e_num, e_truth, e_yes, e_text]
theorem es_bare_ok : EntsOk Tryd.prog tabS es_bare := ⟨num_ok, truth_ok, yes_ok, text_ok, trivial⟩
set_option maxRecDepth 100000 in
theorem bare_vc (x : Vl) :
    ((decide (x.k = (1 : Int)) = true → True ∧ (vNum x.n).k = (vBare x).k ∧ (vNum x.n).n = (vBare x).n ∧ (vNum x.n).t = (vBare x).t ∧ True) ∧ (decide (x.k = (1 : Int)) = false → (decide (x.k = (2 : Int)) = true → True ∧ True ∧ (vTruth (vYes x)).k = (vBare x).k ∧ (vTruth (vYes x)).n = (vBare x).n ∧ (vTruth (vYes x)).t = (vBare x).t ∧ True) ∧ (decide (x.k = (2 : Int)) = false → True ∧ (vText x.t).k = (vBare x).k ∧ (vText x.t).n = (vBare x).n ∧ (vText x.t).t = (vBare x).t ∧ True))) →
    vcF Tryd.prog tabS (specs es_bare) [] (noAnn) Tryd.f33 [x.v] ((vBare x).v) := fun h => Eq.mpr (by kernel_rfl) h
set_option maxRecDepth 100000 in
theorem bare_ct (x : Vl)  : Ct Tryd.prog tabS 33 [x.v] ((vBare x).v) := Ct.of_vcF (specs_ok es_bare_ok) Tryd.func33 (by kernel_rfl) (bare_vc x (by
  simp only [true_and, and_true, decide_eq_true_eq, decide_eq_false_iff_not]
  refine ⟨fun h => by simp [vBare, h], fun h => ⟨fun h2 => by simp [vBare, h, h2, vYes], fun h2 => by simp [vBare, h, h2]⟩⟩))
noncomputable def e_bare : Ent := ent1 33 tVl (fun _ => True) (fun x => (vBare x).v)
theorem bare_ok : e_bare.ok Tryd.prog tabS := ent1_ok fun x _ => bare_ct x
def vTT (op : Int) (a b : Bool) : Vl × Int := if op = 13 then (vTruth (a && b), 0) else if op = 14 then (vTruth (a || b), 0) else (zv, 23)
def vTx (op : Int) (a b : List UInt8) : Vl × Int :=
  if op = 8 then (if a.length + b.length ≤ 40 then (vText (a ++ b), 0) else (zv, 20)) else if op = 9 then (vTruth (Op.bytesLess a b), 0)
  else if op = 10 then (vTruth (Op.bytesLess a b || decide (a = b)), 0) else (zv, 23)
noncomputable def es_twoTruths : List Ent := [e_truth]
theorem es_twoTruths_ok : EntsOk Tryd.prog tabS es_twoTruths := ⟨truth_ok, trivial⟩
set_option maxRecDepth 100000 in
theorem twoTruths_vc (op : Int) (a b : Bool) :
    ((decide (op = (13 : Int)) = true → (a = true → True ∧ ((vTruth b).k = (vTT op a b).fst.k ∧ (vTruth b).n = (vTT op a b).fst.n ∧ (vTruth b).t = (vTT op a b).fst.t ∧ True) ∧ (0 : Int) = (vTT op a b).snd ∧ True) ∧ (a = false → True ∧ ((vTruth false).k = (vTT op a b).fst.k ∧ (vTruth false).n = (vTT op a b).fst.n ∧ (vTruth false).t = (vTT op a b).fst.t ∧ True) ∧ (0 : Int) = (vTT op a b).snd ∧ True)) ∧ (decide (op = (13 : Int)) = false → (decide (op = (14 : Int)) = true → (a = true → True ∧ ((vTruth true).k = (vTT op a b).fst.k ∧ (vTruth true).n = (vTT op a b).fst.n ∧ (vTruth true).t = (vTT op a b).fst.t ∧ True) ∧ (0 : Int) = (vTT op a b).snd ∧ True) ∧ (a = false → True ∧ ((vTruth b).k = (vTT op a b).fst.k ∧ (vTruth b).n = (vTT op a b).fst.n ∧ (vTruth b).t = (vTT op a b).fst.t ∧ True) ∧ (0 : Int) = (vTT op a b).snd ∧ True)) ∧ (decide (op = (14 : Int)) = false → ((0 : Int) = (vTT op a b).fst.k ∧ (0 : Int) = (vTT op a b).fst.n ∧ List.map UInt8.ofNat (bs { data := #[] }) = (vTT op a b).fst.t ∧ True) ∧ (23 : Int) = (vTT op a b).snd ∧ True))) →
    vcF Tryd.prog tabS (specs es_twoTruths) [] (noAnn) Tryd.f35 [.si .u8 op, .sb a, .sb b] (VE (vTT op a b)) := fun h => Eq.mpr (by kernel_rfl) h
set_option maxRecDepth 100000 in
theorem twoTruths_ct (op : Int) (a b : Bool)  : Ct Tryd.prog tabS 35 [.si .u8 op, .sb a, .sb b] (VE (vTT op a b)) := Ct.of_vcF (specs_ok es_twoTruths_ok) Tryd.func35 (by kernel_rfl) (twoTruths_vc op a b (by
  simp only [true_and, and_true, decide_eq_true_eq, decide_eq_false_iff_not, bs0, List.map_nil]
  refine ⟨?_, ?_⟩ <;> intro h <;> simp (config := {contextual := true}) [vTT, h, zv]))
noncomputable def e_twoTruths : Ent := ent3 35 (tI .u8) tB tB (fun _ _ _ => True) (fun op a b => VE (vTT op a b))
theorem twoTruths_ok : e_twoTruths.ok Tryd.prog tabS := ent3_ok fun op a b _ => twoTruths_ct op a b
noncomputable def es_twoTexts : List Ent := [e_truth, e_text]
theorem es_twoTexts_ok : EntsOk Tryd.prog tabS es_twoTexts := ⟨truth_ok, text_ok, trivial⟩
set_option maxRecDepth 100000 in
theorem twoTexts_vc (op : Int) (a b : List UInt8) :
    ((decide (op = (8 : Int)) = true → (decide ((40 : Int) < IntKind.i64.wrap ((↑a.length : Int) + (↑b.length : Int))) = true → ((0 : Int) = (vTx op a b).fst.k ∧ (0 : Int) = (vTx op a b).fst.n ∧ List.map UInt8.ofNat (bs { data := #[] }) = (vTx op a b).fst.t ∧ True) ∧ (20 : Int) = (vTx op a b).snd ∧ True) ∧ (decide ((40 : Int) < IntKind.i64.wrap ((↑a.length : Int) + (↑b.length : Int))) = false → a.length + b.length ≤ (9223372036854775807 : Nat) ∧ True ∧ ((vText (a ++ b)).k = (vTx op a b).fst.k ∧ (vText (a ++ b)).n = (vTx op a b).fst.n ∧ (vText (a ++ b)).t = (vTx op a b).fst.t ∧ True) ∧ (0 : Int) = (vTx op a b).snd ∧ True)) ∧ (decide (op = (8 : Int)) = false → (decide (op = (9 : Int)) = true → True ∧ ((vTruth (Op.bytesLess a b)).k = (vTx op a b).fst.k ∧ (vTruth (Op.bytesLess a b)).n = (vTx op a b).fst.n ∧ (vTruth (Op.bytesLess a b)).t = (vTx op a b).fst.t ∧ True) ∧ (0 : Int) = (vTx op a b).snd ∧ True) ∧ (decide (op = (9 : Int)) = false → (decide (op = (10 : Int)) = true → True ∧ ((vTruth (Op.bytesLess a b || decide (a = b))).k = (vTx op a b).fst.k ∧ (vTruth (Op.bytesLess a b || decide (a = b))).n = (vTx op a b).fst.n ∧ (vTruth (Op.bytesLess a b || decide (a = b))).t = (vTx op a b).fst.t ∧ True) ∧ (0 : Int) = (vTx op a b).snd ∧ True) ∧ (decide (op = (10 : Int)) = false → ((0 : Int) = (vTx op a b).fst.k ∧ (0 : Int) = (vTx op a b).fst.n ∧ List.map UInt8.ofNat (bs { data := #[] }) = (vTx op a b).fst.t ∧ True) ∧ (23 : Int) = (vTx op a b).snd ∧ True)))) →
    vcF Tryd.prog tabS (specs es_twoTexts) [] (noAnn) Tryd.f36 [.si .u8 op, .ss a, .ss b] (VE (vTx op a b)) := fun h => Eq.mpr (by kernel_rfl) h
set_option maxRecDepth 100000 in
theorem twoTexts_ct (op : Int) (a b : List UInt8) (ha : a.length ≤ 140737488351232) (hb : b.length ≤ 140737488351232) : Ct Tryd.prog tabS 36 [.si .u8 op, .ss a, .ss b] (VE (vTx op a b)) := Ct.of_vcF (specs_ok es_twoTexts_ok) Tryd.func36 (by kernel_rfl) (twoTexts_vc op a b (by
  have hw : IntKind.i64.wrap ((a.length : Int) + (b.length : Int)) = (a.length : Int) + b.length := wrap_i64 (by unfold I64; omega)
  simp only [true_and, and_true, decide_eq_true_eq, decide_eq_false_iff_not, bs0, List.map_nil, hw]
  refine ⟨fun h => ⟨fun h2 => ?_, fun h2 => ⟨by omega, ?_⟩⟩, fun h => ?_⟩
  · have : ¬ a.length + b.length ≤ 40 := by omega
    simp [vTx, h, this, zv]
  · have : a.length + b.length ≤ 40 := by omega
    simp [vTx, h, this]
  · simp (config := {contextual := true}) [vTx, h, zv]))
noncomputable def e_twoTexts : Ent := ent3 36 (tI .u8) tS tS (fun _ a b => a.length ≤ 140737488351232 ∧ b.length ≤ 140737488351232) (fun op a b => VE (vTx op a b))
theorem twoTexts_ok : e_twoTexts.ok Tryd.prog tabS := ent3_ok fun op a b h => twoTexts_ct op a b h.1 h.2
def vTwo (op : Int) (a b : Vl) : Vl × Int :=
  if op < 5 ∨ 15 < op then (zv, 4)
  else if a.k ≠ b.k ∨ a.k < 1 ∨ 3 < a.k then (zv, 23)
  else if op = 11 then (vTruth (decide (vBare a = vBare b)), 0)
  else if op = 12 then (vTruth (!decide (vBare a = vBare b)), 0)
  else if a.k = 1 then
    if op = 5 then vTold (a.n * b.n)
    else if op = 6 then (if b.n = 0 then (zv, 21) else if b.n = -1 ∧ a.n = -9223372036854775808 then (zv, 20) else (vNum (Int.tdiv a.n b.n), 0))
    else if op = 7 then (if b.n = 0 then (zv, 21) else if b.n = -1 ∧ a.n = -9223372036854775808 then (zv, 20) else (vNum (Int.tmod a.n b.n), 0))
    else if op = 8 then vTold (a.n + b.n)
    else if op = 9 then (vTruth (decide (a.n < b.n)), 0)
    else if op = 10 then (vTruth (decide (a.n ≤ b.n)), 0)
    else if op = 15 then vTold (a.n - b.n)
    else (zv, 23)
  else if a.k = 2 then vTT op (vYes a) (vYes b)
  else vTx op a.t b.t
structure VlOk (x : Vl) : Prop where
  k : U8 x.k
  n : I64 x.n
  t : x.t.length ≤ 140737488351232
theorem tdiv_in {a b : Int} (ha : I64 a) (hb : b ≠ 0) (h : ¬ (b = -1 ∧ a = -9223372036854775808)) : IntKind.i64.wrap (Int.tdiv a b) = Int.tdiv a b := by
  apply wrap_i64
  unfold I64 at *
  by_cases h1 : b = 1
  · subst h1; rw [Int.tdiv_one]; exact ha
  by_cases h2 : b = -1
  · subst h2; rw [show Int.tdiv a (-1) = -a by rw [Int.tdiv_neg, Int.tdiv_one]]; omega
  have h3 : (a.tdiv b).natAbs ≤ a.natAbs / 2 := by
    rw [Int.natAbs_tdiv]; exact Nat.div_le_div_left (by omega) (by omega)
  omega
theorem eqVl (a b : Vl) : (decide (a.k = b.k) && (decide (a.n = b.n) && (decide (a.t = b.t) && true))) = decide (a = b) := by
  rw [Bool.eq_iff_iff]
  cases a; cases b; simp [and_assoc]
noncomputable def es_two5 : List Ent := [e_truth, e_yes, e_bare, e_isType, e_plus, e_minus, e_times, e_twoTruths, e_twoTexts, e_num]
theorem es_two5_ok : EntsOk Tryd.prog tabS es_two5 := ⟨truth_ok, yes_ok, bare_ok, isType_ok, plus_ok, minus_ok, times_ok, twoTruths_ok, twoTexts_ok, num_ok, trivial⟩
set_option maxRecDepth 100000 in
theorem two5_vc (a b : Vl) :
    (((!decide (a.k = b.k)) = true → ((0 : Int) = (vTwo (5 : Int) a b).fst.k ∧ (0 : Int) = (vTwo (5 : Int) a b).fst.n ∧ List.map UInt8.ofNat (bs { data := #[] }) = (vTwo (5 : Int) a b).fst.t ∧ True) ∧ (23 : Int) = (vTwo (5 : Int) a b).snd ∧ True) ∧ ((!decide (a.k = b.k)) = false → True ∧ ((!(decide ((1 : Int) ≤ a.k) && decide (a.k ≤ (3 : Int)))) = true → ((0 : Int) = (vTwo (5 : Int) a b).fst.k ∧ (0 : Int) = (vTwo (5 : Int) a b).fst.n ∧ List.map UInt8.ofNat (bs { data := #[] }) = (vTwo (5 : Int) a b).fst.t ∧ True) ∧ (23 : Int) = (vTwo (5 : Int) a b).snd ∧ True) ∧ ((!(decide ((1 : Int) ≤ a.k) && decide (a.k ≤ (3 : Int)))) = false → (decide (a.k = (1 : Int)) = true → (I64 a.n ∧ I64 b.n) ∧ ((vTold (a.n * b.n)).fst.k = (vTwo (5 : Int) a b).fst.k ∧ (vTold (a.n * b.n)).fst.n = (vTwo (5 : Int) a b).fst.n ∧ (vTold (a.n * b.n)).fst.t = (vTwo (5 : Int) a b).fst.t ∧ True) ∧ (vTold (a.n * b.n)).snd = (vTwo (5 : Int) a b).snd ∧ True) ∧ (decide (a.k = (1 : Int)) = false → (decide (a.k = (2 : Int)) = true → True ∧ True ∧ True ∧ ((vTT (5 : Int) (vYes a) (vYes b)).fst.k = (vTwo (5 : Int) a b).fst.k ∧ (vTT (5 : Int) (vYes a) (vYes b)).fst.n = (vTwo (5 : Int) a b).fst.n ∧ (vTT (5 : Int) (vYes a) (vYes b)).fst.t = (vTwo (5 : Int) a b).fst.t ∧ True) ∧ (vTT (5 : Int) (vYes a) (vYes b)).snd = (vTwo (5 : Int) a b).snd ∧ True) ∧ (decide (a.k = (2 : Int)) = false → (decide (a.k = (3 : Int)) = true → (a.t.length ≤ (140737488351232 : Nat) ∧ b.t.length ≤ (140737488351232 : Nat)) ∧
      ((vTx (5 : Int) a.t b.t).fst.k = (vTwo (5 : Int) a b).fst.k ∧ (vTx (5 : Int) a.t b.t).fst.n = (vTwo (5 : Int) a b).fst.n ∧ (vTx (5 : Int) a.t b.t).fst.t = (vTwo (5 : Int) a b).fst.t ∧ True) ∧ (vTx (5 : Int) a.t b.t).snd = (vTwo (5 : Int) a b).snd ∧ True) ∧ (decide (a.k = (3 : Int)) = false → ((0 : Int) = (vTwo (5 : Int) a b).fst.k ∧ (0 : Int) = (vTwo (5 : Int) a b).fst.n ∧ List.map UInt8.ofNat (bs { data := #[] }) = (vTwo (5 : Int) a b).fst.t ∧ True) ∧ (23 : Int) = (vTwo (5 : Int) a b).snd ∧ True)))))) →
    vcF Tryd.prog tabS (specs es_two5) [34, 39, 42, 45, 46, 41, 43, 40] (noAnn) Tryd.f20 [.int .u8 5, a.v, b.v] (VE (vTwo 5 a b)) := fun h => Eq.mpr (by kernel_rfl) h
set_option maxRecDepth 100000 in
theorem two5_ct (a b : Vl) (ha : VlOk a) (hb : VlOk b) : Ct Tryd.prog tabS 20 [.int .u8 5, a.v, b.v] (VE (vTwo 5 a b)) := Ct.of_vcF (specs_ok es_two5_ok) Tryd.func20 (by kernel_rfl) (two5_vc a b (by
  obtain ⟨ha1, ha2, ha3⟩ := ha
  obtain ⟨hb1, hb2, hb3⟩ := hb
  unfold I64 at ha2 hb2
  unfold U8 at ha1
  repeat' (first | exact trivial | apply And.intro | intro _)
  all_goals grind [vTwo, vTT, vTx, zv, bs0, vNum]))
noncomputable def es_two6 : List Ent := [e_truth, e_yes, e_bare, e_isType, e_plus, e_minus, e_times, e_twoTruths, e_twoTexts, e_num]
theorem es_two6_ok : EntsOk Tryd.prog tabS es_two6 := ⟨truth_ok, yes_ok, bare_ok, isType_ok, plus_ok, minus_ok, times_ok, twoTruths_ok, twoTexts_ok, num_ok, trivial⟩
set_option maxRecDepth 100000 in
theorem two6_vc (a b : Vl) :
    (((!decide (a.k = b.k)) = true → ((0 : Int) = (vTwo (6 : Int) a b).fst.k ∧ (0 : Int) = (vTwo (6 : Int) a b).fst.n ∧ List.map UInt8.ofNat (bs { data := #[] }) = (vTwo (6 : Int) a b).fst.t ∧ True) ∧ (23 : Int) = (vTwo (6 : Int) a b).snd ∧ True) ∧ ((!decide (a.k = b.k)) = false → True ∧ ((!(decide ((1 : Int) ≤ a.k) && decide (a.k ≤ (3 : Int)))) = true → ((0 : Int) = (vTwo (6 : Int) a b).fst.k ∧ (0 : Int) = (vTwo (6 : Int) a b).fst.n ∧ List.map UInt8.ofNat (bs { data := #[] }) = (vTwo (6 : Int) a b).fst.t ∧ True) ∧ (23 : Int) = (vTwo (6 : Int) a b).snd ∧ True) ∧ ((!(decide ((1 : Int) ≤ a.k) && decide (a.k ≤ (3 : Int)))) = false → (decide (a.k = (1 : Int)) = true → (decide (b.n = (0 : Int)) = true → ((0 : Int) = (vTwo (6 : Int) a b).fst.k ∧ (0 : Int) = (vTwo (6 : Int) a b).fst.n ∧ List.map UInt8.ofNat (bs { data := #[] }) = (vTwo (6 : Int) a b).fst.t ∧ True) ∧ (21 : Int) = (vTwo (6 : Int) a b).snd ∧ True) ∧ (decide (b.n = (0 : Int)) = false → (decide (b.n = (-1 : Int)) = true → (decide (a.n = (-9223372036854775808 : Int)) = true → ((0 : Int) = (vTwo (6 : Int) a b).fst.k ∧ (0 : Int) = (vTwo (6 : Int) a b).fst.n ∧ List.map UInt8.ofNat (bs { data := #[] }) = (vTwo (6 : Int) a b).fst.t ∧ True) ∧ (20 : Int) = (vTwo (6 : Int) a b).snd ∧ True) ∧ (decide (a.n = (-9223372036854775808 : Int)) = false → b.n ≠ (0 : Int) ∧ True ∧ ((vNum (IntKind.i64.wrap (a.n.tdiv b.n))).k = (vTwo (6 : Int) a b).fst.k ∧ (vNum (IntKind.i64.wrap (a.n.tdiv b.n))).n = (vTwo (6 : Int) a b).fst.n ∧
      (vNum (IntKind.i64.wrap (a.n.tdiv b.n))).t = (vTwo (6 : Int) a b).fst.t ∧ True) ∧ (0 : Int) = (vTwo (6 : Int) a b).snd ∧ True)) ∧ (decide (b.n = (-1 : Int)) = false → b.n ≠ (0 : Int) ∧ True ∧ ((vNum (IntKind.i64.wrap (a.n.tdiv b.n))).k = (vTwo (6 : Int) a b).fst.k ∧ (vNum (IntKind.i64.wrap (a.n.tdiv b.n))).n = (vTwo (6 : Int) a b).fst.n ∧ (vNum (IntKind.i64.wrap (a.n.tdiv b.n))).t = (vTwo (6 : Int) a b).fst.t ∧ True) ∧ (0 : Int) = (vTwo (6 : Int) a b).snd ∧ True))) ∧ (decide (a.k = (1 : Int)) = false → (decide (a.k = (2 : Int)) = true → True ∧ True ∧ True ∧ ((vTT (6 : Int) (vYes a) (vYes b)).fst.k = (vTwo (6 : Int) a b).fst.k ∧ (vTT (6 : Int) (vYes a) (vYes b)).fst.n = (vTwo (6 : Int) a b).fst.n ∧ (vTT (6 : Int) (vYes a) (vYes b)).fst.t = (vTwo (6 : Int) a b).fst.t ∧ True) ∧ (vTT (6 : Int) (vYes a) (vYes b)).snd = (vTwo (6 : Int) a b).snd ∧ True) ∧ (decide (a.k = (2 : Int)) = false → (decide (a.k = (3 : Int)) = true → (a.t.length ≤ (140737488351232 : Nat) ∧ b.t.length ≤ (140737488351232 : Nat)) ∧ ((vTx (6 : Int) a.t b.t).fst.k = (vTwo (6 : Int) a b).fst.k ∧ (vTx (6 : Int) a.t b.t).fst.n = (vTwo (6 : Int) a b).fst.n ∧ (vTx (6 : Int) a.t b.t).fst.t = (vTwo (6 : Int) a b).fst.t ∧ True) ∧ (vTx (6 : Int) a.t b.t).snd = (vTwo (6 : Int) a b).snd ∧ True) ∧ (decide (a.k = (3 : Int)) = false → ((0 : Int) = (vTwo (6 : Int) a b).fst.k ∧ (0 : Int) = (vTwo (6 : Int) a b).fst.n ∧ List.map UInt8.ofNat (bs { data := #[] }) = (vTwo (6 : Int) a b).fst.t ∧ True) ∧
      (23 : Int) = (vTwo (6 : Int) a b).snd ∧ True)))))) →
    vcF Tryd.prog tabS (specs es_two6) [34, 39, 42, 45, 46, 41, 43, 40] (noAnn) Tryd.f20 [.int .u8 6, a.v, b.v] (VE (vTwo 6 a b)) := fun h => Eq.mpr (by kernel_rfl) h
set_option maxRecDepth 100000 in
theorem two6_ct (a b : Vl) (ha : VlOk a) (hb : VlOk b) : Ct Tryd.prog tabS 20 [.int .u8 6, a.v, b.v] (VE (vTwo 6 a b)) := Ct.of_vcF (specs_ok es_two6_ok) Tryd.func20 (by kernel_rfl) (two6_vc a b (by
  obtain ⟨ha1, ha2, ha3⟩ := ha
  obtain ⟨hb1, hb2, hb3⟩ := hb
  have hd := fun h1 h2 => tdiv_in (a := a.n) (b := b.n) ha2 h1 h2
  unfold I64 at ha2 hb2
  unfold U8 at ha1
  repeat' (first | exact trivial | apply And.intro | intro _)
  all_goals grind [vTwo, vTT, vTx, zv, bs0, vNum]))
noncomputable def es_two7 : List Ent := [e_truth, e_yes, e_bare, e_isType, e_plus, e_minus, e_times, e_twoTruths, e_twoTexts, e_num]
theorem es_two7_ok : EntsOk Tryd.prog tabS es_two7 := ⟨truth_ok, yes_ok, bare_ok, isType_ok, plus_ok, minus_ok, times_ok, twoTruths_ok, twoTexts_ok, num_ok, trivial⟩
set_option maxRecDepth 100000 in
theorem two7_vc (a b : Vl) :
    (((!decide (a.k = b.k)) = true → ((0 : Int) = (vTwo (7 : Int) a b).fst.k ∧ (0 : Int) = (vTwo (7 : Int) a b).fst.n ∧ List.map UInt8.ofNat (bs { data := #[] }) = (vTwo (7 : Int) a b).fst.t ∧ True) ∧ (23 : Int) = (vTwo (7 : Int) a b).snd ∧ True) ∧ ((!decide (a.k = b.k)) = false → True ∧ ((!(decide ((1 : Int) ≤ a.k) && decide (a.k ≤ (3 : Int)))) = true → ((0 : Int) = (vTwo (7 : Int) a b).fst.k ∧ (0 : Int) = (vTwo (7 : Int) a b).fst.n ∧ List.map UInt8.ofNat (bs { data := #[] }) = (vTwo (7 : Int) a b).fst.t ∧ True) ∧ (23 : Int) = (vTwo (7 : Int) a b).snd ∧ True) ∧ ((!(decide ((1 : Int) ≤ a.k) && decide (a.k ≤ (3 : Int)))) = false → (decide (a.k = (1 : Int)) = true → (decide (b.n = (0 : Int)) = true → ((0 : Int) = (vTwo (7 : Int) a b).fst.k ∧ (0 : Int) = (vTwo (7 : Int) a b).fst.n ∧ List.map UInt8.ofNat (bs { data := #[] }) = (vTwo (7 : Int) a b).fst.t ∧ True) ∧ (21 : Int) = (vTwo (7 : Int) a b).snd ∧ True) ∧ (decide (b.n = (0 : Int)) = false → (decide (b.n = (-1 : Int)) = true → (decide (a.n = (-9223372036854775808 : Int)) = true → ((0 : Int) = (vTwo (7 : Int) a b).fst.k ∧ (0 : Int) = (vTwo (7 : Int) a b).fst.n ∧ List.map UInt8.ofNat (bs { data := #[] }) = (vTwo (7 : Int) a b).fst.t ∧ True) ∧ (20 : Int) = (vTwo (7 : Int) a b).snd ∧ True) ∧ (decide (a.n = (-9223372036854775808 : Int)) = false → b.n ≠ (0 : Int) ∧ True ∧ ((vNum (a.n.tmod b.n)).k = (vTwo (7 : Int) a b).fst.k ∧ (vNum (a.n.tmod b.n)).n = (vTwo (7 : Int) a b).fst.n ∧
      (vNum (a.n.tmod b.n)).t = (vTwo (7 : Int) a b).fst.t ∧ True) ∧ (0 : Int) = (vTwo (7 : Int) a b).snd ∧ True)) ∧ (decide (b.n = (-1 : Int)) = false → b.n ≠ (0 : Int) ∧ True ∧ ((vNum (a.n.tmod b.n)).k = (vTwo (7 : Int) a b).fst.k ∧ (vNum (a.n.tmod b.n)).n = (vTwo (7 : Int) a b).fst.n ∧ (vNum (a.n.tmod b.n)).t = (vTwo (7 : Int) a b).fst.t ∧ True) ∧ (0 : Int) = (vTwo (7 : Int) a b).snd ∧ True))) ∧ (decide (a.k = (1 : Int)) = false → (decide (a.k = (2 : Int)) = true → True ∧ True ∧ True ∧ ((vTT (7 : Int) (vYes a) (vYes b)).fst.k = (vTwo (7 : Int) a b).fst.k ∧ (vTT (7 : Int) (vYes a) (vYes b)).fst.n = (vTwo (7 : Int) a b).fst.n ∧ (vTT (7 : Int) (vYes a) (vYes b)).fst.t = (vTwo (7 : Int) a b).fst.t ∧ True) ∧ (vTT (7 : Int) (vYes a) (vYes b)).snd = (vTwo (7 : Int) a b).snd ∧ True) ∧ (decide (a.k = (2 : Int)) = false → (decide (a.k = (3 : Int)) = true → (a.t.length ≤ (140737488351232 : Nat) ∧ b.t.length ≤ (140737488351232 : Nat)) ∧ ((vTx (7 : Int) a.t b.t).fst.k = (vTwo (7 : Int) a b).fst.k ∧ (vTx (7 : Int) a.t b.t).fst.n = (vTwo (7 : Int) a b).fst.n ∧ (vTx (7 : Int) a.t b.t).fst.t = (vTwo (7 : Int) a b).fst.t ∧ True) ∧ (vTx (7 : Int) a.t b.t).snd = (vTwo (7 : Int) a b).snd ∧ True) ∧ (decide (a.k = (3 : Int)) = false → ((0 : Int) = (vTwo (7 : Int) a b).fst.k ∧ (0 : Int) = (vTwo (7 : Int) a b).fst.n ∧ List.map UInt8.ofNat (bs { data := #[] }) = (vTwo (7 : Int) a b).fst.t ∧ True) ∧ (23 : Int) = (vTwo (7 : Int) a b).snd ∧ True)))))) →
    vcF Tryd.prog tabS (specs es_two7) [34, 39, 42, 45, 46, 41, 43, 40] (noAnn) Tryd.f20 [.int .u8 7, a.v, b.v] (VE (vTwo 7 a b)) := fun h => Eq.mpr (by kernel_rfl) h
set_option maxRecDepth 100000 in
theorem two7_ct (a b : Vl) (ha : VlOk a) (hb : VlOk b) : Ct Tryd.prog tabS 20 [.int .u8 7, a.v, b.v] (VE (vTwo 7 a b)) := Ct.of_vcF (specs_ok es_two7_ok) Tryd.func20 (by kernel_rfl) (two7_vc a b (by
  obtain ⟨ha1, ha2, ha3⟩ := ha
  obtain ⟨hb1, hb2, hb3⟩ := hb
  unfold I64 at ha2 hb2
  unfold U8 at ha1
  repeat' (first | exact trivial | apply And.intro | intro _)
  all_goals grind [vTwo, vTT, vTx, zv, bs0, vNum]))
noncomputable def es_two8 : List Ent := [e_truth, e_yes, e_bare, e_isType, e_plus, e_minus, e_times, e_twoTruths, e_twoTexts, e_num]
theorem es_two8_ok : EntsOk Tryd.prog tabS es_two8 := ⟨truth_ok, yes_ok, bare_ok, isType_ok, plus_ok, minus_ok, times_ok, twoTruths_ok, twoTexts_ok, num_ok, trivial⟩
set_option maxRecDepth 100000 in
theorem two8_vc (a b : Vl) :
    (((!decide (a.k = b.k)) = true → ((0 : Int) = (vTwo (8 : Int) a b).fst.k ∧ (0 : Int) = (vTwo (8 : Int) a b).fst.n ∧ List.map UInt8.ofNat (bs { data := #[] }) = (vTwo (8 : Int) a b).fst.t ∧ True) ∧ (23 : Int) = (vTwo (8 : Int) a b).snd ∧ True) ∧ ((!decide (a.k = b.k)) = false → True ∧ ((!(decide ((1 : Int) ≤ a.k) && decide (a.k ≤ (3 : Int)))) = true → ((0 : Int) = (vTwo (8 : Int) a b).fst.k ∧ (0 : Int) = (vTwo (8 : Int) a b).fst.n ∧ List.map UInt8.ofNat (bs { data := #[] }) = (vTwo (8 : Int) a b).fst.t ∧ True) ∧ (23 : Int) = (vTwo (8 : Int) a b).snd ∧ True) ∧ ((!(decide ((1 : Int) ≤ a.k) && decide (a.k ≤ (3 : Int)))) = false → (decide (a.k = (1 : Int)) = true → (I64 a.n ∧ I64 b.n) ∧ ((vTold (a.n + b.n)).fst.k = (vTwo (8 : Int) a b).fst.k ∧ (vTold (a.n + b.n)).fst.n = (vTwo (8 : Int) a b).fst.n ∧ (vTold (a.n + b.n)).fst.t = (vTwo (8 : Int) a b).fst.t ∧ True) ∧ (vTold (a.n + b.n)).snd = (vTwo (8 : Int) a b).snd ∧ True) ∧ (decide (a.k = (1 : Int)) = false → (decide (a.k = (2 : Int)) = true → True ∧ True ∧ True ∧ ((vTT (8 : Int) (vYes a) (vYes b)).fst.k = (vTwo (8 : Int) a b).fst.k ∧ (vTT (8 : Int) (vYes a) (vYes b)).fst.n = (vTwo (8 : Int) a b).fst.n ∧ (vTT (8 : Int) (vYes a) (vYes b)).fst.t = (vTwo (8 : Int) a b).fst.t ∧ True) ∧ (vTT (8 : Int) (vYes a) (vYes b)).snd = (vTwo (8 : Int) a b).snd ∧ True) ∧ (decide (a.k = (2 : Int)) = false → (decide (a.k = (3 : Int)) = true → (a.t.length ≤ (140737488351232 : Nat) ∧ b.t.length ≤ (140737488351232 : Nat)) ∧
      ((vTx (8 : Int) a.t b.t).fst.k = (vTwo (8 : Int) a b).fst.k ∧ (vTx (8 : Int) a.t b.t).fst.n = (vTwo (8 : Int) a b).fst.n ∧ (vTx (8 : Int) a.t b.t).fst.t = (vTwo (8 : Int) a b).fst.t ∧ True) ∧ (vTx (8 : Int) a.t b.t).snd = (vTwo (8 : Int) a b).snd ∧ True) ∧ (decide (a.k = (3 : Int)) = false → ((0 : Int) = (vTwo (8 : Int) a b).fst.k ∧ (0 : Int) = (vTwo (8 : Int) a b).fst.n ∧ List.map UInt8.ofNat (bs { data := #[] }) = (vTwo (8 : Int) a b).fst.t ∧ True) ∧ (23 : Int) = (vTwo (8 : Int) a b).snd ∧ True)))))) →
    vcF Tryd.prog tabS (specs es_two8) [34, 39, 42, 45, 46, 41, 43, 40] (noAnn) Tryd.f20 [.int .u8 8, a.v, b.v] (VE (vTwo 8 a b)) := fun h => Eq.mpr (by kernel_rfl) h
set_option maxRecDepth 100000 in
theorem two8_ct (a b : Vl) (ha : VlOk a) (hb : VlOk b) : Ct Tryd.prog tabS 20 [.int .u8 8, a.v, b.v] (VE (vTwo 8 a b)) := Ct.of_vcF (specs_ok es_two8_ok) Tryd.func20 (by kernel_rfl) (two8_vc a b (by
  obtain ⟨ha1, ha2, ha3⟩ := ha
  obtain ⟨hb1, hb2, hb3⟩ := hb
  unfold I64 at ha2 hb2
  unfold U8 at ha1
  repeat' (first | exact trivial | apply And.intro | intro _)
  all_goals grind [vTwo, vTT, vTx, zv, bs0, vNum]))
noncomputable def es_two9 : List Ent := [e_truth, e_yes, e_bare, e_isType, e_plus, e_minus, e_times, e_twoTruths, e_twoTexts, e_num]
theorem es_two9_ok : EntsOk Tryd.prog tabS es_two9 := ⟨truth_ok, yes_ok, bare_ok, isType_ok, plus_ok, minus_ok, times_ok, twoTruths_ok, twoTexts_ok, num_ok, trivial⟩
set_option maxRecDepth 100000 in
theorem two9_vc (a b : Vl) :
    (((!decide (a.k = b.k)) = true → ((0 : Int) = (vTwo (9 : Int) a b).fst.k ∧ (0 : Int) = (vTwo (9 : Int) a b).fst.n ∧ List.map UInt8.ofNat (bs { data := #[] }) = (vTwo (9 : Int) a b).fst.t ∧ True) ∧ (23 : Int) = (vTwo (9 : Int) a b).snd ∧ True) ∧ ((!decide (a.k = b.k)) = false → True ∧ ((!(decide ((1 : Int) ≤ a.k) && decide (a.k ≤ (3 : Int)))) = true → ((0 : Int) = (vTwo (9 : Int) a b).fst.k ∧ (0 : Int) = (vTwo (9 : Int) a b).fst.n ∧ List.map UInt8.ofNat (bs { data := #[] }) = (vTwo (9 : Int) a b).fst.t ∧ True) ∧ (23 : Int) = (vTwo (9 : Int) a b).snd ∧ True) ∧ ((!(decide ((1 : Int) ≤ a.k) && decide (a.k ≤ (3 : Int)))) = false → (decide (a.k = (1 : Int)) = true → True ∧ ((vTruth (decide (a.n < b.n))).k = (vTwo (9 : Int) a b).fst.k ∧ (vTruth (decide (a.n < b.n))).n = (vTwo (9 : Int) a b).fst.n ∧ (vTruth (decide (a.n < b.n))).t = (vTwo (9 : Int) a b).fst.t ∧ True) ∧ (0 : Int) = (vTwo (9 : Int) a b).snd ∧ True) ∧ (decide (a.k = (1 : Int)) = false → (decide (a.k = (2 : Int)) = true → True ∧ True ∧ True ∧ ((vTT (9 : Int) (vYes a) (vYes b)).fst.k = (vTwo (9 : Int) a b).fst.k ∧ (vTT (9 : Int) (vYes a) (vYes b)).fst.n = (vTwo (9 : Int) a b).fst.n ∧ (vTT (9 : Int) (vYes a) (vYes b)).fst.t = (vTwo (9 : Int) a b).fst.t ∧ True) ∧ (vTT (9 : Int) (vYes a) (vYes b)).snd = (vTwo (9 : Int) a b).snd ∧ True) ∧ (decide (a.k = (2 : Int)) = false → (decide (a.k = (3 : Int)) = true → (a.t.length ≤ (140737488351232 : Nat) ∧ b.t.length ≤ (140737488351232 : Nat)) ∧
      ((vTx (9 : Int) a.t b.t).fst.k = (vTwo (9 : Int) a b).fst.k ∧ (vTx (9 : Int) a.t b.t).fst.n = (vTwo (9 : Int) a b).fst.n ∧ (vTx (9 : Int) a.t b.t).fst.t = (vTwo (9 : Int) a b).fst.t ∧ True) ∧ (vTx (9 : Int) a.t b.t).snd = (vTwo (9 : Int) a b).snd ∧ True) ∧ (decide (a.k = (3 : Int)) = false → ((0 : Int) = (vTwo (9 : Int) a b).fst.k ∧ (0 : Int) = (vTwo (9 : Int) a b).fst.n ∧ List.map UInt8.ofNat (bs { data := #[] }) = (vTwo (9 : Int) a b).fst.t ∧ True) ∧ (23 : Int) = (vTwo (9 : Int) a b).snd ∧ True)))))) →
    vcF Tryd.prog tabS (specs es_two9) [34, 39, 42, 45, 46, 41, 43, 40] (noAnn) Tryd.f20 [.int .u8 9, a.v, b.v] (VE (vTwo 9 a b)) := fun h => Eq.mpr (by kernel_rfl) h
set_option maxRecDepth 100000 in
theorem two9_ct (a b : Vl) (ha : VlOk a) (hb : VlOk b) : Ct Tryd.prog tabS 20 [.int .u8 9, a.v, b.v] (VE (vTwo 9 a b)) := Ct.of_vcF (specs_ok es_two9_ok) Tryd.func20 (by kernel_rfl) (two9_vc a b (by
  obtain ⟨ha1, ha2, ha3⟩ := ha
  obtain ⟨hb1, hb2, hb3⟩ := hb
  unfold I64 at ha2 hb2
  unfold U8 at ha1
  repeat' (first | exact trivial | apply And.intro | intro _)
  all_goals grind [vTwo, vTT, vTx, zv, bs0, vNum]))
noncomputable def es_two10 : List Ent := [e_truth, e_yes, e_bare, e_isType, e_plus, e_minus, e_times, e_twoTruths, e_twoTexts, e_num]
theorem es_two10_ok : EntsOk Tryd.prog tabS es_two10 := ⟨truth_ok, yes_ok, bare_ok, isType_ok, plus_ok, minus_ok, times_ok, twoTruths_ok, twoTexts_ok, num_ok, trivial⟩
set_option maxRecDepth 100000 in
theorem two10_vc (a b : Vl) :
    (((!decide (a.k = b.k)) = true → ((0 : Int) = (vTwo (10 : Int) a b).fst.k ∧ (0 : Int) = (vTwo (10 : Int) a b).fst.n ∧ List.map UInt8.ofNat (bs { data := #[] }) = (vTwo (10 : Int) a b).fst.t ∧ True) ∧ (23 : Int) = (vTwo (10 : Int) a b).snd ∧ True) ∧ ((!decide (a.k = b.k)) = false → True ∧ ((!(decide ((1 : Int) ≤ a.k) && decide (a.k ≤ (3 : Int)))) = true → ((0 : Int) = (vTwo (10 : Int) a b).fst.k ∧ (0 : Int) = (vTwo (10 : Int) a b).fst.n ∧ List.map UInt8.ofNat (bs { data := #[] }) = (vTwo (10 : Int) a b).fst.t ∧ True) ∧ (23 : Int) = (vTwo (10 : Int) a b).snd ∧ True) ∧ ((!(decide ((1 : Int) ≤ a.k) && decide (a.k ≤ (3 : Int)))) = false → (decide (a.k = (1 : Int)) = true → True ∧ ((vTruth (decide (a.n ≤ b.n))).k = (vTwo (10 : Int) a b).fst.k ∧ (vTruth (decide (a.n ≤ b.n))).n = (vTwo (10 : Int) a b).fst.n ∧ (vTruth (decide (a.n ≤ b.n))).t = (vTwo (10 : Int) a b).fst.t ∧ True) ∧ (0 : Int) = (vTwo (10 : Int) a b).snd ∧ True) ∧ (decide (a.k = (1 : Int)) = false → (decide (a.k = (2 : Int)) = true → True ∧ True ∧ True ∧ ((vTT (10 : Int) (vYes a) (vYes b)).fst.k = (vTwo (10 : Int) a b).fst.k ∧ (vTT (10 : Int) (vYes a) (vYes b)).fst.n = (vTwo (10 : Int) a b).fst.n ∧ (vTT (10 : Int) (vYes a) (vYes b)).fst.t = (vTwo (10 : Int) a b).fst.t ∧ True) ∧ (vTT (10 : Int) (vYes a) (vYes b)).snd = (vTwo (10 : Int) a b).snd ∧ True) ∧ (decide (a.k = (2 : Int)) = false → (decide (a.k = (3 : Int)) = true → (a.t.length ≤ (140737488351232 : Nat) ∧ b.t.length ≤ (140737488351232 : Nat)) ∧
      ((vTx (10 : Int) a.t b.t).fst.k = (vTwo (10 : Int) a b).fst.k ∧ (vTx (10 : Int) a.t b.t).fst.n = (vTwo (10 : Int) a b).fst.n ∧ (vTx (10 : Int) a.t b.t).fst.t = (vTwo (10 : Int) a b).fst.t ∧ True) ∧ (vTx (10 : Int) a.t b.t).snd = (vTwo (10 : Int) a b).snd ∧ True) ∧ (decide (a.k = (3 : Int)) = false → ((0 : Int) = (vTwo (10 : Int) a b).fst.k ∧ (0 : Int) = (vTwo (10 : Int) a b).fst.n ∧ List.map UInt8.ofNat (bs { data := #[] }) = (vTwo (10 : Int) a b).fst.t ∧ True) ∧ (23 : Int) = (vTwo (10 : Int) a b).snd ∧ True)))))) →
    vcF Tryd.prog tabS (specs es_two10) [34, 39, 42, 45, 46, 41, 43, 40] (noAnn) Tryd.f20 [.int .u8 10, a.v, b.v] (VE (vTwo 10 a b)) := fun h => Eq.mpr (by kernel_rfl) h
set_option maxRecDepth 100000 in
theorem two10_ct (a b : Vl) (ha : VlOk a) (hb : VlOk b) : Ct Tryd.prog tabS 20 [.int .u8 10, a.v, b.v] (VE (vTwo 10 a b)) := Ct.of_vcF (specs_ok es_two10_ok) Tryd.func20 (by kernel_rfl) (two10_vc a b (by
  obtain ⟨ha1, ha2, ha3⟩ := ha
  obtain ⟨hb1, hb2, hb3⟩ := hb
  unfold I64 at ha2 hb2
  unfold U8 at ha1
  repeat' (first | exact trivial | apply And.intro | intro _)
  all_goals grind [vTwo, vTT, vTx, zv, bs0, vNum]))
noncomputable def es_two11 : List Ent := [e_truth, e_yes, e_bare, e_isType, e_plus, e_minus, e_times, e_twoTruths, e_twoTexts, e_num]
theorem es_two11_ok : EntsOk Tryd.prog tabS es_two11 := ⟨truth_ok, yes_ok, bare_ok, isType_ok, plus_ok, minus_ok, times_ok, twoTruths_ok, twoTexts_ok, num_ok, trivial⟩
set_option maxRecDepth 100000 in
theorem two11_vc (a b : Vl) :
    (((!decide (a.k = b.k)) = true → ((0 : Int) = (vTwo (11 : Int) a b).fst.k ∧ (0 : Int) = (vTwo (11 : Int) a b).fst.n ∧ List.map UInt8.ofNat (bs { data := #[] }) = (vTwo (11 : Int) a b).fst.t ∧ True) ∧ (23 : Int) = (vTwo (11 : Int) a b).snd ∧ True) ∧ ((!decide (a.k = b.k)) = false → True ∧ ((!(decide ((1 : Int) ≤ a.k) && decide (a.k ≤ (3 : Int)))) = true → ((0 : Int) = (vTwo (11 : Int) a b).fst.k ∧ (0 : Int) = (vTwo (11 : Int) a b).fst.n ∧ List.map UInt8.ofNat (bs { data := #[] }) = (vTwo (11 : Int) a b).fst.t ∧ True) ∧ (23 : Int) = (vTwo (11 : Int) a b).snd ∧ True) ∧ ((!(decide ((1 : Int) ≤ a.k) && decide (a.k ≤ (3 : Int)))) = false → True ∧ True ∧ True ∧ ((vTruth (decide ((vBare a).k = (vBare b).k) && (decide ((vBare a).n = (vBare b).n) && (decide ((vBare a).t = (vBare b).t) && true)))).k = (vTwo (11 : Int) a b).fst.k ∧ (vTruth (decide ((vBare a).k = (vBare b).k) && (decide ((vBare a).n = (vBare b).n) && (decide ((vBare a).t = (vBare b).t) && true)))).n = (vTwo (11 : Int) a b).fst.n ∧ (vTruth (decide ((vBare a).k = (vBare b).k) && (decide ((vBare a).n = (vBare b).n) && (decide ((vBare a).t = (vBare b).t) && true)))).t = (vTwo (11 : Int) a b).fst.t ∧ True) ∧ (0 : Int) = (vTwo (11 : Int) a b).snd ∧ True))) →
    vcF Tryd.prog tabS (specs es_two11) [34, 39, 42, 45, 46, 41, 43, 40] (noAnn) Tryd.f20 [.int .u8 11, a.v, b.v] (VE (vTwo 11 a b)) := fun h => Eq.mpr (by kernel_rfl) h
set_option maxRecDepth 100000 in
theorem two11_ct (a b : Vl) (ha : VlOk a) (hb : VlOk b) : Ct Tryd.prog tabS 20 [.int .u8 11, a.v, b.v] (VE (vTwo 11 a b)) := Ct.of_vcF (specs_ok es_two11_ok) Tryd.func20 (by kernel_rfl) (two11_vc a b (by
  obtain ⟨ha1, ha2, ha3⟩ := ha
  obtain ⟨hb1, hb2, hb3⟩ := hb
  simp only [eqVl]
  unfold U8 at ha1
  repeat' (first | exact trivial | apply And.intro | intro _)
  all_goals grind [vTwo, zv, bs0]))
noncomputable def es_two12 : List Ent := [e_truth, e_yes, e_bare, e_isType, e_plus, e_minus, e_times, e_twoTruths, e_twoTexts, e_num]
theorem es_two12_ok : EntsOk Tryd.prog tabS es_two12 := ⟨truth_ok, yes_ok, bare_ok, isType_ok, plus_ok, minus_ok, times_ok, twoTruths_ok, twoTexts_ok, num_ok, trivial⟩
set_option maxRecDepth 100000 in
theorem two12_vc (a b : Vl) :
    (((!decide (a.k = b.k)) = true → ((0 : Int) = (vTwo (12 : Int) a b).fst.k ∧ (0 : Int) = (vTwo (12 : Int) a b).fst.n ∧ List.map UInt8.ofNat (bs { data := #[] }) = (vTwo (12 : Int) a b).fst.t ∧ True) ∧ (23 : Int) = (vTwo (12 : Int) a b).snd ∧ True) ∧ ((!decide (a.k = b.k)) = false → True ∧ ((!(decide ((1 : Int) ≤ a.k) && decide (a.k ≤ (3 : Int)))) = true → ((0 : Int) = (vTwo (12 : Int) a b).fst.k ∧ (0 : Int) = (vTwo (12 : Int) a b).fst.n ∧ List.map UInt8.ofNat (bs { data := #[] }) = (vTwo (12 : Int) a b).fst.t ∧ True) ∧ (23 : Int) = (vTwo (12 : Int) a b).snd ∧ True) ∧ ((!(decide ((1 : Int) ≤ a.k) && decide (a.k ≤ (3 : Int)))) = false → True ∧ True ∧ True ∧ ((vTruth !(decide ((vBare a).k = (vBare b).k) && (decide ((vBare a).n = (vBare b).n) && (decide ((vBare a).t = (vBare b).t) && true)))).k = (vTwo (12 : Int) a b).fst.k ∧ (vTruth !(decide ((vBare a).k = (vBare b).k) && (decide ((vBare a).n = (vBare b).n) && (decide ((vBare a).t = (vBare b).t) && true)))).n = (vTwo (12 : Int) a b).fst.n ∧ (vTruth !(decide ((vBare a).k = (vBare b).k) && (decide ((vBare a).n = (vBare b).n) && (decide ((vBare a).t = (vBare b).t) && true)))).t = (vTwo (12 : Int) a b).fst.t ∧ True) ∧ (0 : Int) = (vTwo (12 : Int) a b).snd ∧ True))) →
    vcF Tryd.prog tabS (specs es_two12) [34, 39, 42, 45, 46, 41, 43, 40] (noAnn) Tryd.f20 [.int .u8 12, a.v, b.v] (VE (vTwo 12 a b)) := fun h => Eq.mpr (by kernel_rfl) h
set_option maxRecDepth 100000 in
theorem two12_ct (a b : Vl) (ha : VlOk a) (hb : VlOk b) : Ct Tryd.prog tabS 20 [.int .u8 12, a.v, b.v] (VE (vTwo 12 a b)) := Ct.of_vcF (specs_ok es_two12_ok) Tryd.func20 (by kernel_rfl) (two12_vc a b (by
  obtain ⟨ha1, ha2, ha3⟩ := ha
  obtain ⟨hb1, hb2, hb3⟩ := hb
  simp only [eqVl]
  unfold U8 at ha1
  repeat' (first | exact trivial | apply And.intro | intro _)
  all_goals grind [vTwo, zv, bs0]))
noncomputable def es_two13 : List Ent := [e_truth, e_yes, e_bare, e_isType, e_plus, e_minus, e_times, e_twoTruths, e_twoTexts, e_num]
theorem es_two13_ok : EntsOk Tryd.prog tabS es_two13 := ⟨truth_ok, yes_ok, bare_ok, isType_ok, plus_ok, minus_ok, times_ok, twoTruths_ok, twoTexts_ok, num_ok, trivial⟩
set_option maxRecDepth 100000 in
theorem two13_vc (a b : Vl) :
    (((!decide (a.k = b.k)) = true → ((0 : Int) = (vTwo (13 : Int) a b).fst.k ∧ (0 : Int) = (vTwo (13 : Int) a b).fst.n ∧ List.map UInt8.ofNat (bs { data := #[] }) = (vTwo (13 : Int) a b).fst.t ∧ True) ∧ (23 : Int) = (vTwo (13 : Int) a b).snd ∧ True) ∧ ((!decide (a.k = b.k)) = false → True ∧ ((!(decide ((1 : Int) ≤ a.k) && decide (a.k ≤ (3 : Int)))) = true → ((0 : Int) = (vTwo (13 : Int) a b).fst.k ∧ (0 : Int) = (vTwo (13 : Int) a b).fst.n ∧ List.map UInt8.ofNat (bs { data := #[] }) = (vTwo (13 : Int) a b).fst.t ∧ True) ∧ (23 : Int) = (vTwo (13 : Int) a b).snd ∧ True) ∧ ((!(decide ((1 : Int) ≤ a.k) && decide (a.k ≤ (3 : Int)))) = false → (decide (a.k = (1 : Int)) = true → ((0 : Int) = (vTwo (13 : Int) a b).fst.k ∧ (0 : Int) = (vTwo (13 : Int) a b).fst.n ∧ List.map UInt8.ofNat (bs { data := #[] }) = (vTwo (13 : Int) a b).fst.t ∧ True) ∧ (23 : Int) = (vTwo (13 : Int) a b).snd ∧ True) ∧ (decide (a.k = (1 : Int)) = false → (decide (a.k = (2 : Int)) = true → True ∧ True ∧ True ∧ ((vTT (13 : Int) (vYes a) (vYes b)).fst.k = (vTwo (13 : Int) a b).fst.k ∧ (vTT (13 : Int) (vYes a) (vYes b)).fst.n = (vTwo (13 : Int) a b).fst.n ∧ (vTT (13 : Int) (vYes a) (vYes b)).fst.t = (vTwo (13 : Int) a b).fst.t ∧ True) ∧ (vTT (13 : Int) (vYes a) (vYes b)).snd = (vTwo (13 : Int) a b).snd ∧ True) ∧ (decide (a.k = (2 : Int)) = false → (decide (a.k = (3 : Int)) = true → (a.t.length ≤ (140737488351232 : Nat) ∧ b.t.length ≤ (140737488351232 : Nat)) ∧
      ((vTx (13 : Int) a.t b.t).fst.k = (vTwo (13 : Int) a b).fst.k ∧ (vTx (13 : Int) a.t b.t).fst.n = (vTwo (13 : Int) a b).fst.n ∧ (vTx (13 : Int) a.t b.t).fst.t = (vTwo (13 : Int) a b).fst.t ∧ True) ∧ (vTx (13 : Int) a.t b.t).snd = (vTwo (13 : Int) a b).snd ∧ True) ∧ (decide (a.k = (3 : Int)) = false → ((0 : Int) = (vTwo (13 : Int) a b).fst.k ∧ (0 : Int) = (vTwo (13 : Int) a b).fst.n ∧ List.map UInt8.ofNat (bs { data := #[] }) = (vTwo (13 : Int) a b).fst.t ∧ True) ∧ (23 : Int) = (vTwo (13 : Int) a b).snd ∧ True)))))) →
    vcF Tryd.prog tabS (specs es_two13) [34, 39, 42, 45, 46, 41, 43, 40] (noAnn) Tryd.f20 [.int .u8 13, a.v, b.v] (VE (vTwo 13 a b)) := fun h => Eq.mpr (by kernel_rfl) h
set_option maxRecDepth 100000 in
theorem two13_ct (a b : Vl) (ha : VlOk a) (hb : VlOk b) : Ct Tryd.prog tabS 20 [.int .u8 13, a.v, b.v] (VE (vTwo 13 a b)) := Ct.of_vcF (specs_ok es_two13_ok) Tryd.func20 (by kernel_rfl) (two13_vc a b (by
  obtain ⟨ha1, ha2, ha3⟩ := ha
  obtain ⟨hb1, hb2, hb3⟩ := hb
  unfold I64 at ha2 hb2
  unfold U8 at ha1
  repeat' (first | exact trivial | apply And.intro | intro _)
  all_goals grind [vTwo, vTT, vTx, zv, bs0, vNum]))
noncomputable def es_two14 : List Ent := [e_truth, e_yes, e_bare, e_isType, e_plus, e_minus, e_times, e_twoTruths, e_twoTexts, e_num]
theorem es_two14_ok : EntsOk Tryd.prog tabS es_two14 := ⟨truth_ok, yes_ok, bare_ok, isType_ok, plus_ok, minus_ok, times_ok, twoTruths_ok, twoTexts_ok, num_ok, trivial⟩
set_option maxRecDepth 100000 in
theorem two14_vc (a b : Vl) :
    (((!decide (a.k = b.k)) = true → ((0 : Int) = (vTwo (14 : Int) a b).fst.k ∧ (0 : Int) = (vTwo (14 : Int) a b).fst.n ∧ List.map UInt8.ofNat (bs { data := #[] }) = (vTwo (14 : Int) a b).fst.t ∧ True) ∧ (23 : Int) = (vTwo (14 : Int) a b).snd ∧ True) ∧ ((!decide (a.k = b.k)) = false → True ∧ ((!(decide ((1 : Int) ≤ a.k) && decide (a.k ≤ (3 : Int)))) = true → ((0 : Int) = (vTwo (14 : Int) a b).fst.k ∧ (0 : Int) = (vTwo (14 : Int) a b).fst.n ∧ List.map UInt8.ofNat (bs { data := #[] }) = (vTwo (14 : Int) a b).fst.t ∧ True) ∧ (23 : Int) = (vTwo (14 : Int) a b).snd ∧ True) ∧ ((!(decide ((1 : Int) ≤ a.k) && decide (a.k ≤ (3 : Int)))) = false → (decide (a.k = (1 : Int)) = true → ((0 : Int) = (vTwo (14 : Int) a b).fst.k ∧ (0 : Int) = (vTwo (14 : Int) a b).fst.n ∧ List.map UInt8.ofNat (bs { data := #[] }) = (vTwo (14 : Int) a b).fst.t ∧ True) ∧ (23 : Int) = (vTwo (14 : Int) a b).snd ∧ True) ∧ (decide (a.k = (1 : Int)) = false → (decide (a.k = (2 : Int)) = true → True ∧ True ∧ True ∧ ((vTT (14 : Int) (vYes a) (vYes b)).fst.k = (vTwo (14 : Int) a b).fst.k ∧ (vTT (14 : Int) (vYes a) (vYes b)).fst.n = (vTwo (14 : Int) a b).fst.n ∧ (vTT (14 : Int) (vYes a) (vYes b)).fst.t = (vTwo (14 : Int) a b).fst.t ∧ True) ∧ (vTT (14 : Int) (vYes a) (vYes b)).snd = (vTwo (14 : Int) a b).snd ∧ True) ∧ (decide (a.k = (2 : Int)) = false → (decide (a.k = (3 : Int)) = true → (a.t.length ≤ (140737488351232 : Nat) ∧ b.t.length ≤ (140737488351232 : Nat)) ∧
      ((vTx (14 : Int) a.t b.t).fst.k = (vTwo (14 : Int) a b).fst.k ∧ (vTx (14 : Int) a.t b.t).fst.n = (vTwo (14 : Int) a b).fst.n ∧ (vTx (14 : Int) a.t b.t).fst.t = (vTwo (14 : Int) a b).fst.t ∧ True) ∧ (vTx (14 : Int) a.t b.t).snd = (vTwo (14 : Int) a b).snd ∧ True) ∧ (decide (a.k = (3 : Int)) = false → ((0 : Int) = (vTwo (14 : Int) a b).fst.k ∧ (0 : Int) = (vTwo (14 : Int) a b).fst.n ∧ List.map UInt8.ofNat (bs { data := #[] }) = (vTwo (14 : Int) a b).fst.t ∧ True) ∧ (23 : Int) = (vTwo (14 : Int) a b).snd ∧ True)))))) →
    vcF Tryd.prog tabS (specs es_two14) [34, 39, 42, 45, 46, 41, 43, 40] (noAnn) Tryd.f20 [.int .u8 14, a.v, b.v] (VE (vTwo 14 a b)) := fun h => Eq.mpr (by kernel_rfl) h
set_option maxRecDepth 100000 in
theorem two14_ct (a b : Vl) (ha : VlOk a) (hb : VlOk b) : Ct Tryd.prog tabS 20 [.int .u8 14, a.v, b.v] (VE (vTwo 14 a b)) := Ct.of_vcF (specs_ok es_two14_ok) Tryd.func20 (by kernel_rfl) (two14_vc a b (by
  obtain ⟨ha1, ha2, ha3⟩ := ha
  obtain ⟨hb1, hb2, hb3⟩ := hb
  unfold I64 at ha2 hb2
  unfold U8 at ha1
  repeat' (first | exact trivial | apply And.intro | intro _)
  all_goals grind [vTwo, vTT, vTx, zv, bs0, vNum]))
noncomputable def es_two15 : List Ent := [e_truth, e_yes, e_bare, e_isType, e_plus, e_minus, e_times, e_twoTruths, e_twoTexts, e_num]
theorem es_two15_ok : EntsOk Tryd.prog tabS es_two15 := ⟨truth_ok, yes_ok, bare_ok, isType_ok, plus_ok, minus_ok, times_ok, twoTruths_ok, twoTexts_ok, num_ok, trivial⟩
set_option maxRecDepth 100000 in
theorem two15_vc (a b : Vl) :
    (((!decide (a.k = b.k)) = true → ((0 : Int) = (vTwo (15 : Int) a b).fst.k ∧ (0 : Int) = (vTwo (15 : Int) a b).fst.n ∧ List.map UInt8.ofNat (bs { data := #[] }) = (vTwo (15 : Int) a b).fst.t ∧ True) ∧ (23 : Int) = (vTwo (15 : Int) a b).snd ∧ True) ∧ ((!decide (a.k = b.k)) = false → True ∧ ((!(decide ((1 : Int) ≤ a.k) && decide (a.k ≤ (3 : Int)))) = true → ((0 : Int) = (vTwo (15 : Int) a b).fst.k ∧ (0 : Int) = (vTwo (15 : Int) a b).fst.n ∧ List.map UInt8.ofNat (bs { data := #[] }) = (vTwo (15 : Int) a b).fst.t ∧ True) ∧ (23 : Int) = (vTwo (15 : Int) a b).snd ∧ True) ∧ ((!(decide ((1 : Int) ≤ a.k) && decide (a.k ≤ (3 : Int)))) = false → (decide (a.k = (1 : Int)) = true → (I64 a.n ∧ I64 b.n) ∧ ((vTold (a.n - b.n)).fst.k = (vTwo (15 : Int) a b).fst.k ∧ (vTold (a.n - b.n)).fst.n = (vTwo (15 : Int) a b).fst.n ∧ (vTold (a.n - b.n)).fst.t = (vTwo (15 : Int) a b).fst.t ∧ True) ∧ (vTold (a.n - b.n)).snd = (vTwo (15 : Int) a b).snd ∧ True) ∧ (decide (a.k = (1 : Int)) = false → (decide (a.k = (2 : Int)) = true → True ∧ True ∧ True ∧ ((vTT (15 : Int) (vYes a) (vYes b)).fst.k = (vTwo (15 : Int) a b).fst.k ∧ (vTT (15 : Int) (vYes a) (vYes b)).fst.n = (vTwo (15 : Int) a b).fst.n ∧ (vTT (15 : Int) (vYes a) (vYes b)).fst.t = (vTwo (15 : Int) a b).fst.t ∧ True) ∧ (vTT (15 : Int) (vYes a) (vYes b)).snd = (vTwo (15 : Int) a b).snd ∧ True) ∧ (decide (a.k = (2 : Int)) = false → (decide (a.k = (3 : Int)) = true → (a.t.length ≤ (140737488351232 : Nat) ∧
      b.t.length ≤ (140737488351232 : Nat)) ∧ ((vTx (15 : Int) a.t b.t).fst.k = (vTwo (15 : Int) a b).fst.k ∧ (vTx (15 : Int) a.t b.t).fst.n = (vTwo (15 : Int) a b).fst.n ∧ (vTx (15 : Int) a.t b.t).fst.t = (vTwo (15 : Int) a b).fst.t ∧ True) ∧ (vTx (15 : Int) a.t b.t).snd = (vTwo (15 : Int) a b).snd ∧ True) ∧ (decide (a.k = (3 : Int)) = false → ((0 : Int) = (vTwo (15 : Int) a b).fst.k ∧ (0 : Int) = (vTwo (15 : Int) a b).fst.n ∧ List.map UInt8.ofNat (bs { data := #[] }) = (vTwo (15 : Int) a b).fst.t ∧ True) ∧ (23 : Int) = (vTwo (15 : Int) a b).snd ∧ True)))))) →
    vcF Tryd.prog tabS (specs es_two15) [34, 39, 42, 45, 46, 41, 43, 40] (noAnn) Tryd.f20 [.int .u8 15, a.v, b.v] (VE (vTwo 15 a b)) := fun h => Eq.mpr (by kernel_rfl) h
set_option maxRecDepth 100000 in
theorem two15_ct (a b : Vl) (ha : VlOk a) (hb : VlOk b) : Ct Tryd.prog tabS 20 [.int .u8 15, a.v, b.v] (VE (vTwo 15 a b)) := Ct.of_vcF (specs_ok es_two15_ok) Tryd.func20 (by kernel_rfl) (two15_vc a b (by
  obtain ⟨ha1, ha2, ha3⟩ := ha
  obtain ⟨hb1, hb2, hb3⟩ := hb
  unfold I64 at ha2 hb2
  unfold U8 at ha1
  repeat' (first | exact trivial | apply And.intro | intro _)
  all_goals grind [vTwo, vTT, vTx, zv, bs0, vNum]))
noncomputable def es_twoOut : List Ent := [e_truth, e_yes, e_bare, e_isType, e_plus, e_minus, e_times, e_twoTruths, e_twoTexts, e_num]
theorem es_twoOut_ok : EntsOk Tryd.prog tabS es_twoOut := ⟨truth_ok, yes_ok, bare_ok, isType_ok, plus_ok, minus_ok, times_ok, twoTruths_ok, twoTexts_ok, num_ok, trivial⟩
set_option maxRecDepth 100000 in
theorem twoOut_vc (op : Int) (a b : Vl) :
    ((decide (op < (5 : Int)) = true → ((0 : Int) = (vTwo op a b).fst.k ∧ (0 : Int) = (vTwo op a b).fst.n ∧ List.map UInt8.ofNat (bs { data := #[] }) = (vTwo op a b).fst.t ∧ True) ∧ (4 : Int) = (vTwo op a b).snd ∧ True) ∧ (decide (op < (5 : Int)) = false → (decide ((15 : Int) < op) = true → ((0 : Int) = (vTwo op a b).fst.k ∧ (0 : Int) = (vTwo op a b).fst.n ∧ List.map UInt8.ofNat (bs { data := #[] }) = (vTwo op a b).fst.t ∧ True) ∧ (4 : Int) = (vTwo op a b).snd ∧ True) ∧ (decide ((15 : Int) < op) = false → ((!decide (a.k = b.k)) = true → ((0 : Int) = (vTwo op a b).fst.k ∧ (0 : Int) = (vTwo op a b).fst.n ∧ List.map UInt8.ofNat (bs { data := #[] }) = (vTwo op a b).fst.t ∧ True) ∧ (23 : Int) = (vTwo op a b).snd ∧ True) ∧ ((!decide (a.k = b.k)) = false → True ∧ ((!(decide ((1 : Int) ≤ a.k) && decide (a.k ≤ (3 : Int)))) = true → ((0 : Int) = (vTwo op a b).fst.k ∧ (0 : Int) = (vTwo op a b).fst.n ∧ List.map UInt8.ofNat (bs { data := #[] }) = (vTwo op a b).fst.t ∧ True) ∧ (23 : Int) = (vTwo op a b).snd ∧ True) ∧ ((!(decide ((1 : Int) ≤ a.k) && decide (a.k ≤ (3 : Int)))) = false → (decide (op = (11 : Int)) = true → True ∧ True ∧ True ∧ ((vTruth (decide ((vBare a).k = (vBare b).k) && (decide ((vBare a).n = (vBare b).n) && (decide ((vBare a).t = (vBare b).t) && true)))).k = (vTwo op a b).fst.k ∧ (vTruth (decide ((vBare a).k = (vBare b).k) && (decide ((vBare a).n = (vBare b).n) && (decide ((vBare a).t = (vBare b).t) && true)))).n = (vTwo op a b).fst.n ∧
      (vTruth (decide ((vBare a).k = (vBare b).k) && (decide ((vBare a).n = (vBare b).n) && (decide ((vBare a).t = (vBare b).t) && true)))).t = (vTwo op a b).fst.t ∧ True) ∧ (0 : Int) = (vTwo op a b).snd ∧ True) ∧ (decide (op = (11 : Int)) = false → (decide (op = (12 : Int)) = true → True ∧ True ∧ True ∧ ((vTruth !(decide ((vBare a).k = (vBare b).k) && (decide ((vBare a).n = (vBare b).n) && (decide ((vBare a).t = (vBare b).t) && true)))).k = (vTwo op a b).fst.k ∧ (vTruth !(decide ((vBare a).k = (vBare b).k) && (decide ((vBare a).n = (vBare b).n) && (decide ((vBare a).t = (vBare b).t) && true)))).n = (vTwo op a b).fst.n ∧ (vTruth !(decide ((vBare a).k = (vBare b).k) && (decide ((vBare a).n = (vBare b).n) && (decide ((vBare a).t = (vBare b).t) && true)))).t = (vTwo op a b).fst.t ∧ True) ∧ (0 : Int) = (vTwo op a b).snd ∧ True) ∧ (decide (op = (12 : Int)) = false → (decide (a.k = (1 : Int)) = true → False) ∧ (decide (a.k = (1 : Int)) = false → (decide (a.k = (2 : Int)) = true → True ∧ True ∧ True ∧ ((vTT op (vYes a) (vYes b)).fst.k = (vTwo op a b).fst.k ∧ (vTT op (vYes a) (vYes b)).fst.n = (vTwo op a b).fst.n ∧ (vTT op (vYes a) (vYes b)).fst.t = (vTwo op a b).fst.t ∧ True) ∧ (vTT op (vYes a) (vYes b)).snd = (vTwo op a b).snd ∧ True) ∧ (decide (a.k = (2 : Int)) = false → (decide (a.k = (3 : Int)) = true → (a.t.length ≤ (140737488351232 : Nat) ∧ b.t.length ≤ (140737488351232 : Nat)) ∧ ((vTx op a.t b.t).fst.k = (vTwo op a b).fst.k ∧ (vTx op a.t b.t).fst.n = (vTwo op a b).fst.n ∧
      (vTx op a.t b.t).fst.t = (vTwo op a b).fst.t ∧ True) ∧ (vTx op a.t b.t).snd = (vTwo op a b).snd ∧ True) ∧ (decide (a.k = (3 : Int)) = false → ((0 : Int) = (vTwo op a b).fst.k ∧ (0 : Int) = (vTwo op a b).fst.n ∧ List.map UInt8.ofNat (bs { data := #[] }) = (vTwo op a b).fst.t ∧ True) ∧ (23 : Int) = (vTwo op a b).snd ∧ True)))))))))) →
    vcF Tryd.prog tabS (specs es_twoOut) [34, 39, 42, 45, 46, 41, 43, 40] (noAnn) Tryd.f20 [.si .u8 op, a.v, b.v] (VE (vTwo op a b)) := fun h => Eq.mpr (by kernel_rfl) h
set_option maxRecDepth 100000 in
theorem twoOut_ct (op : Int) (a b : Vl) (ho : op < 5 ∨ 15 < op) : Ct Tryd.prog tabS 20 [.si .u8 op, a.v, b.v] (VE (vTwo op a b)) := Ct.of_vcF (specs_ok es_twoOut_ok) Tryd.func20 (by kernel_rfl) (twoOut_vc op a b (by
  repeat' (first | exact trivial | apply And.intro | intro _)
  all_goals grind [vTwo, zv, bs0]))
theorem si_conv (k : IntKind) (n : Int) (fz : Nat → Nat → Option Value) (l : List Value) (rest : List V) (h : RVs (Sg.ofFz fz) (.si k n :: rest) l) : RVs (Sg.ofFz fz) (.int k n :: rest) l := by
  simp only [RVs, RV] at h ⊢; exact h
theorem two_ct (op : Int) (a b : Vl) (ho : U8 op) (ha : VlOk a) (hb : VlOk b) : Ct Tryd.prog tabS 20 [.si .u8 op, a.v, b.v] (VE (vTwo op a b)) := by
  by_cases h : op < 5 ∨ 15 < op
  · exact twoOut_ct op a b h
  · have : op = 5 ∨ op = 6 ∨ op = 7 ∨ op = 8 ∨ op = 9 ∨ op = 10 ∨ op = 11 ∨ op = 12 ∨ op = 13 ∨ op = 14 ∨ op = 15 := by omega
    rcases this with rfl | rfl | rfl | rfl | rfl | rfl | rfl | rfl | rfl | rfl | rfl
    · exact (two5_ct a b ha hb).conv fun fz l => si_conv _ _ fz l _
    · exact (two6_ct a b ha hb).conv fun fz l => si_conv _ _ fz l _
    · exact (two7_ct a b ha hb).conv fun fz l => si_conv _ _ fz l _
    · exact (two8_ct a b ha hb).conv fun fz l => si_conv _ _ fz l _
    · exact (two9_ct a b ha hb).conv fun fz l => si_conv _ _ fz l _
    · exact (two10_ct a b ha hb).conv fun fz l => si_conv _ _ fz l _
    · exact (two11_ct a b ha hb).conv fun fz l => si_conv _ _ fz l _
    · exact (two12_ct a b ha hb).conv fun fz l => si_conv _ _ fz l _
    · exact (two13_ct a b ha hb).conv fun fz l => si_conv _ _ fz l _
    · exact (two14_ct a b ha hb).conv fun fz l => si_conv _ _ fz l _
    · exact (two15_ct a b ha hb).conv fun fz l => si_conv _ _ fz l _
noncomputable def e_two : Ent := ent3 20 (tI .u8) tVl tVl (fun op a b => U8 op ∧ VlOk a ∧ VlOk b) (fun op a b => VE (vTwo op a b))
theorem two_ok : e_two.ok Tryd.prog tabS := ent3_ok fun op a b h => two_ct op a b h.1 h.2.1 h.2.2
def vOne (op : Int) (x : Vl) : Vl × Int :=
  if op ≠ 3 ∧ op ≠ 4 ∧ op ≠ 16 then (zv, 4)
  else if op = 3 ∧ x.k = 1 then vTold (0 - x.n)
  else if op = 4 ∧ x.k = 2 then (vTruth (!vYes x), 0)
  else if op = 16 ∧ x.k = 3 then (vNum x.t.length, 0)
  else (zv, 23)
noncomputable def es_one : List Ent := [e_truth, e_yes, e_minus, e_num]
theorem es_one_ok : EntsOk Tryd.prog tabS es_one := ⟨truth_ok, yes_ok, minus_ok, num_ok, trivial⟩
set_option maxRecDepth 100000 in
theorem one_vc (op : Int) (x : Vl) :
    (((!decide (op = (3 : Int))) = true → ((!decide (op = (4 : Int))) = true → ((!decide (op = (16 : Int))) = true → ((0 : Int) = (vOne op x).fst.k ∧ (0 : Int) = (vOne op x).fst.n ∧ List.map UInt8.ofNat (bs { data := #[] }) = (vOne op x).fst.t ∧ True) ∧ (4 : Int) = (vOne op x).snd ∧ True) ∧ ((!decide (op = (16 : Int))) = false → (decide (op = (3 : Int)) = true → (decide (x.k = (1 : Int)) = true → (I64 (0 : Int) ∧ I64 x.n) ∧ ((vTold ((0 : Int) - x.n)).fst.k = (vOne op x).fst.k ∧ (vTold ((0 : Int) - x.n)).fst.n = (vOne op x).fst.n ∧ (vTold ((0 : Int) - x.n)).fst.t = (vOne op x).fst.t ∧ True) ∧ (vTold ((0 : Int) - x.n)).snd = (vOne op x).snd ∧ True) ∧ (decide (x.k = (1 : Int)) = false → (decide (op = (4 : Int)) = true → (decide (x.k = (2 : Int)) = true → True ∧ True ∧ ((vTruth !vYes x).k = (vOne op x).fst.k ∧ (vTruth !vYes x).n = (vOne op x).fst.n ∧ (vTruth !vYes x).t = (vOne op x).fst.t ∧ True) ∧ (0 : Int) = (vOne op x).snd ∧ True) ∧ (decide (x.k = (2 : Int)) = false → (decide (op = (16 : Int)) = true → (decide (x.k = (3 : Int)) = true → True ∧ ((vNum (↑x.t.length : Int)).k = (vOne op x).fst.k ∧ (vNum (↑x.t.length : Int)).n = (vOne op x).fst.n ∧ (vNum (↑x.t.length : Int)).t = (vOne op x).fst.t ∧ True) ∧ (0 : Int) = (vOne op x).snd ∧ True) ∧ (decide (x.k = (3 : Int)) = false → ((0 : Int) = (vOne op x).fst.k ∧ (0 : Int) = (vOne op x).fst.n ∧ List.map UInt8.ofNat (bs { data := #[] }) = (vOne op x).fst.t ∧ True) ∧ (23 : Int) = (vOne op x).snd ∧ True)) ∧
      (decide (op = (16 : Int)) = false → ((0 : Int) = (vOne op x).fst.k ∧ (0 : Int) = (vOne op x).fst.n ∧ List.map UInt8.ofNat (bs { data := #[] }) = (vOne op x).fst.t ∧ True) ∧ (23 : Int) = (vOne op x).snd ∧ True))) ∧ (decide (op = (4 : Int)) = false → (decide (op = (16 : Int)) = true → (decide (x.k = (3 : Int)) = true → True ∧ ((vNum (↑x.t.length : Int)).k = (vOne op x).fst.k ∧ (vNum (↑x.t.length : Int)).n = (vOne op x).fst.n ∧ (vNum (↑x.t.length : Int)).t = (vOne op x).fst.t ∧ True) ∧ (0 : Int) = (vOne op x).snd ∧ True) ∧ (decide (x.k = (3 : Int)) = false → ((0 : Int) = (vOne op x).fst.k ∧ (0 : Int) = (vOne op x).fst.n ∧ List.map UInt8.ofNat (bs { data := #[] }) = (vOne op x).fst.t ∧ True) ∧ (23 : Int) = (vOne op x).snd ∧ True)) ∧ (decide (op = (16 : Int)) = false → ((0 : Int) = (vOne op x).fst.k ∧ (0 : Int) = (vOne op x).fst.n ∧ List.map UInt8.ofNat (bs { data := #[] }) = (vOne op x).fst.t ∧ True) ∧ (23 : Int) = (vOne op x).snd ∧ True)))) ∧ (decide (op = (3 : Int)) = false → (decide (op = (4 : Int)) = true → (decide (x.k = (2 : Int)) = true → True ∧ True ∧ ((vTruth !vYes x).k = (vOne op x).fst.k ∧ (vTruth !vYes x).n = (vOne op x).fst.n ∧ (vTruth !vYes x).t = (vOne op x).fst.t ∧ True) ∧ (0 : Int) = (vOne op x).snd ∧ True) ∧ (decide (x.k = (2 : Int)) = false → (decide (op = (16 : Int)) = true → (decide (x.k = (3 : Int)) = true → True ∧ ((vNum (↑x.t.length : Int)).k = (vOne op x).fst.k ∧ (vNum (↑x.t.length : Int)).n = (vOne op x).fst.n ∧
      (vNum (↑x.t.length : Int)).t = (vOne op x).fst.t ∧ True) ∧ (0 : Int) = (vOne op x).snd ∧ True) ∧ (decide (x.k = (3 : Int)) = false → ((0 : Int) = (vOne op x).fst.k ∧ (0 : Int) = (vOne op x).fst.n ∧ List.map UInt8.ofNat (bs { data := #[] }) = (vOne op x).fst.t ∧ True) ∧ (23 : Int) = (vOne op x).snd ∧ True)) ∧ (decide (op = (16 : Int)) = false → ((0 : Int) = (vOne op x).fst.k ∧ (0 : Int) = (vOne op x).fst.n ∧ List.map UInt8.ofNat (bs { data := #[] }) = (vOne op x).fst.t ∧ True) ∧ (23 : Int) = (vOne op x).snd ∧ True))) ∧ (decide (op = (4 : Int)) = false → (decide (op = (16 : Int)) = true → (decide (x.k = (3 : Int)) = true → True ∧ ((vNum (↑x.t.length : Int)).k = (vOne op x).fst.k ∧ (vNum (↑x.t.length : Int)).n = (vOne op x).fst.n ∧ (vNum (↑x.t.length : Int)).t = (vOne op x).fst.t ∧ True) ∧ (0 : Int) = (vOne op x).snd ∧ True) ∧ (decide (x.k = (3 : Int)) = false → ((0 : Int) = (vOne op x).fst.k ∧ (0 : Int) = (vOne op x).fst.n ∧ List.map UInt8.ofNat (bs { data := #[] }) = (vOne op x).fst.t ∧ True) ∧ (23 : Int) = (vOne op x).snd ∧ True)) ∧ (decide (op = (16 : Int)) = false → ((0 : Int) = (vOne op x).fst.k ∧ (0 : Int) = (vOne op x).fst.n ∧ List.map UInt8.ofNat (bs { data := #[] }) = (vOne op x).fst.t ∧ True) ∧ (23 : Int) = (vOne op x).snd ∧ True))))) ∧ ((!decide (op = (4 : Int))) = false → (decide (op = (3 : Int)) = true → (decide (x.k = (1 : Int)) = true → (I64 (0 : Int) ∧ I64 x.n) ∧ ((vTold ((0 : Int) - x.n)).fst.k = (vOne op x).fst.k ∧
      (vTold ((0 : Int) - x.n)).fst.n = (vOne op x).fst.n ∧ (vTold ((0 : Int) - x.n)).fst.t = (vOne op x).fst.t ∧ True) ∧ (vTold ((0 : Int) - x.n)).snd = (vOne op x).snd ∧ True) ∧ (decide (x.k = (1 : Int)) = false → (decide (op = (4 : Int)) = true → (decide (x.k = (2 : Int)) = true → True ∧ True ∧ ((vTruth !vYes x).k = (vOne op x).fst.k ∧ (vTruth !vYes x).n = (vOne op x).fst.n ∧ (vTruth !vYes x).t = (vOne op x).fst.t ∧ True) ∧ (0 : Int) = (vOne op x).snd ∧ True) ∧ (decide (x.k = (2 : Int)) = false → (decide (op = (16 : Int)) = true → (decide (x.k = (3 : Int)) = true → True ∧ ((vNum (↑x.t.length : Int)).k = (vOne op x).fst.k ∧ (vNum (↑x.t.length : Int)).n = (vOne op x).fst.n ∧ (vNum (↑x.t.length : Int)).t = (vOne op x).fst.t ∧ True) ∧ (0 : Int) = (vOne op x).snd ∧ True) ∧ (decide (x.k = (3 : Int)) = false → ((0 : Int) = (vOne op x).fst.k ∧ (0 : Int) = (vOne op x).fst.n ∧ List.map UInt8.ofNat (bs { data := #[] }) = (vOne op x).fst.t ∧ True) ∧ (23 : Int) = (vOne op x).snd ∧ True)) ∧ (decide (op = (16 : Int)) = false → ((0 : Int) = (vOne op x).fst.k ∧ (0 : Int) = (vOne op x).fst.n ∧ List.map UInt8.ofNat (bs { data := #[] }) = (vOne op x).fst.t ∧ True) ∧ (23 : Int) = (vOne op x).snd ∧ True))) ∧ (decide (op = (4 : Int)) = false → (decide (op = (16 : Int)) = true → (decide (x.k = (3 : Int)) = true → True ∧ ((vNum (↑x.t.length : Int)).k = (vOne op x).fst.k ∧ (vNum (↑x.t.length : Int)).n = (vOne op x).fst.n ∧ (vNum (↑x.t.length : Int)).t = (vOne op x).fst.t ∧ True) ∧
      (0 : Int) = (vOne op x).snd ∧ True) ∧ (decide (x.k = (3 : Int)) = false → ((0 : Int) = (vOne op x).fst.k ∧ (0 : Int) = (vOne op x).fst.n ∧ List.map UInt8.ofNat (bs { data := #[] }) = (vOne op x).fst.t ∧ True) ∧ (23 : Int) = (vOne op x).snd ∧ True)) ∧ (decide (op = (16 : Int)) = false → ((0 : Int) = (vOne op x).fst.k ∧ (0 : Int) = (vOne op x).fst.n ∧ List.map UInt8.ofNat (bs { data := #[] }) = (vOne op x).fst.t ∧ True) ∧ (23 : Int) = (vOne op x).snd ∧ True)))) ∧ (decide (op = (3 : Int)) = false → (decide (op = (4 : Int)) = true → (decide (x.k = (2 : Int)) = true → True ∧ True ∧ ((vTruth !vYes x).k = (vOne op x).fst.k ∧ (vTruth !vYes x).n = (vOne op x).fst.n ∧ (vTruth !vYes x).t = (vOne op x).fst.t ∧ True) ∧ (0 : Int) = (vOne op x).snd ∧ True) ∧ (decide (x.k = (2 : Int)) = false → (decide (op = (16 : Int)) = true → (decide (x.k = (3 : Int)) = true → True ∧ ((vNum (↑x.t.length : Int)).k = (vOne op x).fst.k ∧ (vNum (↑x.t.length : Int)).n = (vOne op x).fst.n ∧ (vNum (↑x.t.length : Int)).t = (vOne op x).fst.t ∧ True) ∧ (0 : Int) = (vOne op x).snd ∧ True) ∧ (decide (x.k = (3 : Int)) = false → ((0 : Int) = (vOne op x).fst.k ∧ (0 : Int) = (vOne op x).fst.n ∧ List.map UInt8.ofNat (bs { data := #[] }) = (vOne op x).fst.t ∧ True) ∧ (23 : Int) = (vOne op x).snd ∧ True)) ∧ (decide (op = (16 : Int)) = false → ((0 : Int) = (vOne op x).fst.k ∧ (0 : Int) = (vOne op x).fst.n ∧ List.map UInt8.ofNat (bs { data := #[] }) = (vOne op x).fst.t ∧ True) ∧ (23 : Int) = (vOne op x).snd ∧ True))) ∧
      (decide (op = (4 : Int)) = false → (decide (op = (16 : Int)) = true → (decide (x.k = (3 : Int)) = true → True ∧ ((vNum (↑x.t.length : Int)).k = (vOne op x).fst.k ∧ (vNum (↑x.t.length : Int)).n = (vOne op x).fst.n ∧ (vNum (↑x.t.length : Int)).t = (vOne op x).fst.t ∧ True) ∧ (0 : Int) = (vOne op x).snd ∧ True) ∧ (decide (x.k = (3 : Int)) = false → ((0 : Int) = (vOne op x).fst.k ∧ (0 : Int) = (vOne op x).fst.n ∧ List.map UInt8.ofNat (bs { data := #[] }) = (vOne op x).fst.t ∧ True) ∧ (23 : Int) = (vOne op x).snd ∧ True)) ∧ (decide (op = (16 : Int)) = false → ((0 : Int) = (vOne op x).fst.k ∧ (0 : Int) = (vOne op x).fst.n ∧ List.map UInt8.ofNat (bs { data := #[] }) = (vOne op x).fst.t ∧ True) ∧ (23 : Int) = (vOne op x).snd ∧ True))))) ∧ ((!decide (op = (3 : Int))) = false → (decide (op = (3 : Int)) = true → (decide (x.k = (1 : Int)) = true → (I64 (0 : Int) ∧ I64 x.n) ∧ ((vTold ((0 : Int) - x.n)).fst.k = (vOne op x).fst.k ∧ (vTold ((0 : Int) - x.n)).fst.n = (vOne op x).fst.n ∧ (vTold ((0 : Int) - x.n)).fst.t = (vOne op x).fst.t ∧ True) ∧ (vTold ((0 : Int) - x.n)).snd = (vOne op x).snd ∧ True) ∧ (decide (x.k = (1 : Int)) = false → (decide (op = (4 : Int)) = true → (decide (x.k = (2 : Int)) = true → True ∧ True ∧ ((vTruth !vYes x).k = (vOne op x).fst.k ∧ (vTruth !vYes x).n = (vOne op x).fst.n ∧ (vTruth !vYes x).t = (vOne op x).fst.t ∧ True) ∧ (0 : Int) = (vOne op x).snd ∧ True) ∧ (decide (x.k = (2 : Int)) = false → (decide (op = (16 : Int)) = true → (decide (x.k = (3 : Int)) = true →
      True ∧ ((vNum (↑x.t.length : Int)).k = (vOne op x).fst.k ∧ (vNum (↑x.t.length : Int)).n = (vOne op x).fst.n ∧ (vNum (↑x.t.length : Int)).t = (vOne op x).fst.t ∧ True) ∧ (0 : Int) = (vOne op x).snd ∧ True) ∧ (decide (x.k = (3 : Int)) = false → ((0 : Int) = (vOne op x).fst.k ∧ (0 : Int) = (vOne op x).fst.n ∧ List.map UInt8.ofNat (bs { data := #[] }) = (vOne op x).fst.t ∧ True) ∧ (23 : Int) = (vOne op x).snd ∧ True)) ∧ (decide (op = (16 : Int)) = false → ((0 : Int) = (vOne op x).fst.k ∧ (0 : Int) = (vOne op x).fst.n ∧ List.map UInt8.ofNat (bs { data := #[] }) = (vOne op x).fst.t ∧ True) ∧ (23 : Int) = (vOne op x).snd ∧ True))) ∧ (decide (op = (4 : Int)) = false → (decide (op = (16 : Int)) = true → (decide (x.k = (3 : Int)) = true → True ∧ ((vNum (↑x.t.length : Int)).k = (vOne op x).fst.k ∧ (vNum (↑x.t.length : Int)).n = (vOne op x).fst.n ∧ (vNum (↑x.t.length : Int)).t = (vOne op x).fst.t ∧ True) ∧ (0 : Int) = (vOne op x).snd ∧ True) ∧ (decide (x.k = (3 : Int)) = false → ((0 : Int) = (vOne op x).fst.k ∧ (0 : Int) = (vOne op x).fst.n ∧ List.map UInt8.ofNat (bs { data := #[] }) = (vOne op x).fst.t ∧ True) ∧ (23 : Int) = (vOne op x).snd ∧ True)) ∧ (decide (op = (16 : Int)) = false → ((0 : Int) = (vOne op x).fst.k ∧ (0 : Int) = (vOne op x).fst.n ∧ List.map UInt8.ofNat (bs { data := #[] }) = (vOne op x).fst.t ∧ True) ∧ (23 : Int) = (vOne op x).snd ∧ True)))) ∧ (decide (op = (3 : Int)) = false → (decide (op = (4 : Int)) = true → (decide (x.k = (2 : Int)) = true → True ∧ True ∧
      ((vTruth !vYes x).k = (vOne op x).fst.k ∧ (vTruth !vYes x).n = (vOne op x).fst.n ∧ (vTruth !vYes x).t = (vOne op x).fst.t ∧ True) ∧ (0 : Int) = (vOne op x).snd ∧ True) ∧ (decide (x.k = (2 : Int)) = false → (decide (op = (16 : Int)) = true → (decide (x.k = (3 : Int)) = true → True ∧ ((vNum (↑x.t.length : Int)).k = (vOne op x).fst.k ∧ (vNum (↑x.t.length : Int)).n = (vOne op x).fst.n ∧ (vNum (↑x.t.length : Int)).t = (vOne op x).fst.t ∧ True) ∧ (0 : Int) = (vOne op x).snd ∧ True) ∧ (decide (x.k = (3 : Int)) = false → ((0 : Int) = (vOne op x).fst.k ∧ (0 : Int) = (vOne op x).fst.n ∧ List.map UInt8.ofNat (bs { data := #[] }) = (vOne op x).fst.t ∧ True) ∧ (23 : Int) = (vOne op x).snd ∧ True)) ∧ (decide (op = (16 : Int)) = false → ((0 : Int) = (vOne op x).fst.k ∧ (0 : Int) = (vOne op x).fst.n ∧ List.map UInt8.ofNat (bs { data := #[] }) = (vOne op x).fst.t ∧ True) ∧ (23 : Int) = (vOne op x).snd ∧ True))) ∧ (decide (op = (4 : Int)) = false → (decide (op = (16 : Int)) = true → (decide (x.k = (3 : Int)) = true → True ∧ ((vNum (↑x.t.length : Int)).k = (vOne op x).fst.k ∧ (vNum (↑x.t.length : Int)).n = (vOne op x).fst.n ∧ (vNum (↑x.t.length : Int)).t = (vOne op x).fst.t ∧ True) ∧ (0 : Int) = (vOne op x).snd ∧ True) ∧ (decide (x.k = (3 : Int)) = false → ((0 : Int) = (vOne op x).fst.k ∧ (0 : Int) = (vOne op x).fst.n ∧ List.map UInt8.ofNat (bs { data := #[] }) = (vOne op x).fst.t ∧ True) ∧ (23 : Int) = (vOne op x).snd ∧ True)) ∧ (decide (op = (16 : Int)) = false →
      ((0 : Int) = (vOne op x).fst.k ∧ (0 : Int) = (vOne op x).fst.n ∧ List.map UInt8.ofNat (bs { data := #[] }) = (vOne op x).fst.t ∧ True) ∧ (23 : Int) = (vOne op x).snd ∧ True))))) →
    vcF Tryd.prog tabS (specs es_one) [] (noAnn) Tryd.f5 [.si .u8 op, x.v] (VE (vOne op x)) := fun h => Eq.mpr (by kernel_rfl) h
set_option maxRecDepth 100000 in
theorem one_ct (op : Int) (x : Vl) (ho : U8 op) (hx : VlOk x) : Ct Tryd.prog tabS 5 [.si .u8 op, x.v] (VE (vOne op x)) := Ct.of_vcF (specs_ok es_one_ok) Tryd.func5 (by kernel_rfl) (one_vc op x (by
  obtain ⟨hx1, hx2, hx3⟩ := hx
  have hw : IntKind.i64.wrap (x.t.length : Int) = x.t.length := wrap_i64 (by unfold I64; omega)
  unfold I64 at hx2
  unfold U8 at ho
  repeat' (first | exact trivial | apply And.intro | intro _)
  all_goals grind [vOne, zv, bs0, vNum]))
noncomputable def e_one : Ent := ent2 5 (tI .u8) tVl (fun op x => U8 op ∧ VlOk x) (fun op x => VE (vOne op x))
theorem one_ok : e_one.ok Tryd.prog tabS := ent2_ok fun op x h => one_ct op x h.1 h.2
end Go.Proofs.YthnldpbkjegfaaaDoor
