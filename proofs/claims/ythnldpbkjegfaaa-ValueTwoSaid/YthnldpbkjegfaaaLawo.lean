/-
  The law ValueOrder of package value.
-/
import Derived.Test.YthnldpbkjegfaaaLawt
import Derived.Test.YthnldpbkjegfaaaProg
import Derived.Test.YthnldpbkjegfaaaSe
set_option linter.unusedVariables false
set_option linter.unusedSimpArgs false
noncomputable section
namespace Go.Proofs.Ythnldpbkjegfaaa
open Go Go.RowKit Go.Proofs Go.Proofs.Ythnldpbkjegfaaa.Sv
theorem bl_irrefl : ∀ a : List UInt8, Op.bytesLess a a = false
  | [] => rfl
  | x :: a => by simp [Op.bytesLess, bl_irrefl a]
theorem bl_tri : ∀ a b : List UInt8, (Op.bytesLess a b = true ∧ Op.bytesLess b a = false ∧ a ≠ b) ∨ (Op.bytesLess a b = false ∧ Op.bytesLess b a = true ∧ a ≠ b) ∨ (Op.bytesLess a b = false ∧ Op.bytesLess b a = false ∧ a = b)
  | [], [] => by simp [Op.bytesLess]
  | [], y :: b => by simp [Op.bytesLess]
  | x :: a, [] => by simp [Op.bytesLess]
  | x :: a, y :: b => by
    have ih := bl_tri a b
    by_cases h : x < y
    · have h2 : ¬ y < x := fun h' => by rw [UInt8.lt_iff_toNat_lt] at h h'; omega
      have h3 : ¬ y = x := fun h' => by subst h'; rw [UInt8.lt_iff_toNat_lt] at h; omega
      have h4 : ¬ x = y := fun e => h3 e.symm
      left; simp [Op.bytesLess, h, h2, h3, h4]
    · by_cases h2 : y < x
      · have h3 : ¬ y = x := fun h' => by subst h'; rw [UInt8.lt_iff_toNat_lt] at h2; omega
        have h4 : ¬ x = y := fun e => h3 e.symm
        right; left; simp [Op.bytesLess, h, h2, h3, h4]
      · have h3 : x = y := by rw [UInt8.lt_iff_toNat_lt] at h h2; apply UInt8.toNat_inj.1; omega
        subst h3
        simpa [Op.bytesLess, h] using ih
theorem bl_trans : ∀ a b c : List UInt8, Op.bytesLess a b = true → Op.bytesLess b c = true → Op.bytesLess a c = true
  | _, [], _, h, _ => by simp [Op.bytesLess] at h
  | _, _ :: _, [], _, h => by simp [Op.bytesLess] at h
  | [], _ :: _, _ :: _, _, _ => rfl
  | x :: a, y :: b, z :: c, h1, h2 => by
    simp only [Op.bytesLess, Bool.or_eq_true, Bool.and_eq_true, decide_eq_true_eq, beq_iff_eq] at h1 h2 ⊢
    rcases h1 with h1 | ⟨rfl, h1⟩
    · rcases h2 with h2 | ⟨rfl, h2⟩
      · left; rw [UInt8.lt_iff_toNat_lt] at *; omega
      · left; exact h1
    · rcases h2 with h2 | ⟨rfl, h2⟩
      · left; exact h2
      · right; exact ⟨rfl, bl_trans a b c h1 h2⟩
/-- of two of one Kind: less -/
def vLt (a b : Vl) : Bool := if a.k = 1 then decide (a.n < b.n) else Op.bytesLess a.t b.t
def vEq (a b : Vl) : Bool := decide (vBare a = vBare b)
def cmpK (a b : Vl) : Bool := decide (a.k = b.k ∧ (a.k = 1 ∨ a.k = 3))
theorem two9_yes {a b : Vl} (h : cmpK a b = true) : vTwo 9 a b = (vTruth (vLt a b), 0) := by
  have h := of_decide_eq_true h; obtain ⟨h1, h2 | h2⟩ := h <;> simp [vTwo, vLt, vTx, ← h1, h2]
theorem two9_no {a b : Vl} (h : cmpK a b = false) : vTwo 9 a b = (zv, 23) := by
  have h := of_decide_eq_false h
  unfold vTwo
  by_cases c1 : a.k ≠ b.k ∨ a.k < 1 ∨ 3 < a.k
  · rw [if_neg (by decide), if_pos c1]
  · rw [if_neg (by decide), if_neg c1, if_neg (by decide), if_neg (by decide), if_neg (by omega), if_pos (by omega), vTT, if_neg (by decide), if_neg (by decide)]
theorem two11_yes {a b : Vl} (h : cmpK a b = true) : vTwo 11 a b = (vTruth (vEq a b), 0) := by
  have h := of_decide_eq_true h; obtain ⟨h1, h2 | h2⟩ := h <;> simp [vTwo, vEq, ← h1, h2]
theorem two12_yes {a b : Vl} (h : cmpK a b = true) : vTwo 12 a b = (vTruth (!vEq a b), 0) := by
  have h := of_decide_eq_true h; obtain ⟨h1, h2 | h2⟩ := h <;> simp [vTwo, vEq, ← h1, h2]
theorem two10_yes {a b : Vl} (h : cmpK a b = true) : vTwo 10 a b = (vTruth (vLt a b || vEq a b), 0) := by
  have h := of_decide_eq_true h; obtain ⟨h1, h2 | h2⟩ := h
  · simp only [vTwo, vEq, vLt, vBare, vNum, ← h1, h2]
    simp
    congr 1; rw [Bool.eq_iff_iff]; simp; omega
  · simp only [vTwo, vEq, vLt, vBare, vText, vTx, ← h1, h2]
    simp
theorem cmp_tri {a b : Vl} (h : cmpK a b = true) : (vLt a b = true ∧ vLt b a = false ∧ vEq a b = false) ∨ (vLt a b = false ∧ vLt b a = true ∧ vEq a b = false) ∨ (vLt a b = false ∧ vLt b a = false ∧ vEq a b = true) := by
  have h := of_decide_eq_true h; obtain ⟨h1, h2 | h2⟩ := h
  · have h3 : b.k = 1 := by omega
    simp [vLt, vEq, vBare, vNum, h2, h3]; omega
  · have h3 : b.k = 3 := by omega
    have := bl_tri a.t b.t
    simpa [vLt, vEq, vBare, vText, h2, h3] using this
theorem cmp_sym {a b : Vl} (h : cmpK a b = true) : cmpK b a = true := by
  have h := of_decide_eq_true h; exact decide_eq_true (by omega)
theorem cmp_trans {a b c : Vl} (h : cmpK a b = true) (h' : cmpK b c = true) : cmpK a c = true ∧ (vLt a b = true → vLt b c = true → vLt a c = true) := by
  have h := of_decide_eq_true h; have h' := of_decide_eq_true h'
  refine ⟨decide_eq_true (by omega), ?_⟩
  obtain ⟨h1, h2 | h2⟩ := h
  · have h3 : b.k = 1 := by omega
    simp [vLt, h2, h3]; omega
  · have h3 : b.k = 3 := by omega
    simp [vLt, h2, h3]; exact bl_trans _ _ _
theorem yes_truth (b : Bool) : vYes (vTruth b) = b := by cases b <;> rfl
noncomputable def es_order : List Ent := [e_works, e_two, e_yes]
theorem es_order_ok : EntsOk Try.prog St.none es_order := ⟨works_ok, two_ok, yes_ok, trivial⟩
theorem order_vc (a b c : Vl) :
    (True ∧ ((!true) = true → True ∧ true = true) ∧ ((!true) = false → (decide ((2000 : Int) < (↑a.t.length : Int)) = true → True ∧ true = true) ∧ (decide ((2000 : Int) < (↑a.t.length : Int)) = false → (decide ((2000 : Int) < (↑b.t.length : Int)) = true → True ∧ true = true) ∧ (decide ((2000 : Int) < (↑b.t.length : Int)) = false → (decide ((2000 : Int) < (↑c.t.length : Int)) = true → True ∧ true = true) ∧ (decide ((2000 : Int) < (↑c.t.length : Int)) = false → (U8 (9 : Int) ∧ VlOk a ∧ VlOk b) ∧ (U8 (9 : Int) ∧ VlOk b ∧ VlOk a) ∧ (U8 (11 : Int) ∧ VlOk a ∧ VlOk b) ∧ ((!decide ((vTwo (9 : Int) a b).snd = (0 : Int))) = true → decide ((vTwo (9 : Int) a b).snd = (23 : Int)) = true) ∧ ((!decide ((vTwo (9 : Int) a b).snd = (0 : Int))) = false → True ∧ (vYes (vTwo (9 : Int) a b).fst = true → True ∧ (vYes (vTwo (9 : Int) b a).fst = true → True ∧ (vYes (vTwo (11 : Int) a b).fst = true → (U8 (10 : Int) ∧ VlOk a ∧ VlOk b) ∧ (U8 (12 : Int) ∧ VlOk a ∧ VlOk b) ∧ false = true) ∧ (vYes (vTwo (11 : Int) a b).fst = false → (U8 (10 : Int) ∧ VlOk a ∧ VlOk b) ∧ (U8 (12 : Int) ∧ VlOk a ∧ VlOk b) ∧ false = true)) ∧ (vYes (vTwo (9 : Int) b a).fst = false → True ∧ (vYes (vTwo (11 : Int) a b).fst = true → (U8 (10 : Int) ∧ VlOk a ∧ VlOk b) ∧ (U8 (12 : Int) ∧ VlOk a ∧ VlOk b) ∧ false = true) ∧ (vYes (vTwo (11 : Int) a b).fst = false → (U8 (10 : Int) ∧ VlOk a ∧ VlOk b) ∧ (U8 (12 : Int) ∧ VlOk a ∧ VlOk b) ∧ ((!decide ((vTwo (10 : Int) a b).snd = (0 : Int))) = true → false = true) ∧
      ((!decide ((vTwo (10 : Int) a b).snd = (0 : Int))) = false → ((!decide ((vTwo (12 : Int) a b).snd = (0 : Int))) = true → false = true) ∧ ((!decide ((vTwo (12 : Int) a b).snd = (0 : Int))) = false → True ∧ True ∧ (vYes (vTwo (9 : Int) a b).fst = true → ((!vYes (vTwo (10 : Int) a b).fst == true) = true → false = true) ∧ ((!vYes (vTwo (10 : Int) a b).fst == true) = false → True ∧ True ∧ ((vYes (vTwo (12 : Int) a b).fst == vYes (vTwo (11 : Int) a b).fst) = true → false = true) ∧ ((vYes (vTwo (12 : Int) a b).fst == vYes (vTwo (11 : Int) a b).fst) = false → (U8 (9 : Int) ∧ VlOk b ∧ VlOk c) ∧ (U8 (9 : Int) ∧ VlOk a ∧ VlOk c) ∧ ((!decide ((vTwo (9 : Int) b c).snd = (0 : Int))) = true → true = true) ∧ ((!decide ((vTwo (9 : Int) b c).snd = (0 : Int))) = false → True ∧ ((!vYes (vTwo (9 : Int) a b).fst) = true → true = true) ∧ ((!vYes (vTwo (9 : Int) a b).fst) = false → True ∧ ((!vYes (vTwo (9 : Int) b c).fst) = true → true = true) ∧ ((!vYes (vTwo (9 : Int) b c).fst) = false → True ∧ vYes (vTwo (9 : Int) a c).fst = true)))))) ∧ (vYes (vTwo (9 : Int) a b).fst = false → True ∧ ((!vYes (vTwo (10 : Int) a b).fst == vYes (vTwo (11 : Int) a b).fst) = true → false = true) ∧ ((!vYes (vTwo (10 : Int) a b).fst == vYes (vTwo (11 : Int) a b).fst) = false → True ∧ True ∧ ((vYes (vTwo (12 : Int) a b).fst == vYes (vTwo (11 : Int) a b).fst) = true → false = true) ∧ ((vYes (vTwo (12 : Int) a b).fst == vYes (vTwo (11 : Int) a b).fst) = false → (U8 (9 : Int) ∧ VlOk b ∧ VlOk c) ∧ (U8 (9 : Int) ∧ VlOk a ∧
      VlOk c) ∧ ((!decide ((vTwo (9 : Int) b c).snd = (0 : Int))) = true → true = true) ∧ ((!decide ((vTwo (9 : Int) b c).snd = (0 : Int))) = false → True ∧ ((!vYes (vTwo (9 : Int) a b).fst) = true → true = true) ∧ ((!vYes (vTwo (9 : Int) a b).fst) = false → True ∧ ((!vYes (vTwo (9 : Int) b c).fst) = true → true = true) ∧ ((!vYes (vTwo (9 : Int) b c).fst) = false → True ∧ vYes (vTwo (9 : Int) a c).fst = true))))))))))) ∧ (vYes (vTwo (9 : Int) a b).fst = false → True ∧ (vYes (vTwo (9 : Int) b a).fst = true → True ∧ (vYes (vTwo (11 : Int) a b).fst = true → (U8 (10 : Int) ∧ VlOk a ∧ VlOk b) ∧ (U8 (12 : Int) ∧ VlOk a ∧ VlOk b) ∧ false = true) ∧ (vYes (vTwo (11 : Int) a b).fst = false → (U8 (10 : Int) ∧ VlOk a ∧ VlOk b) ∧ (U8 (12 : Int) ∧ VlOk a ∧ VlOk b) ∧ ((!decide ((vTwo (10 : Int) a b).snd = (0 : Int))) = true → false = true) ∧ ((!decide ((vTwo (10 : Int) a b).snd = (0 : Int))) = false → ((!decide ((vTwo (12 : Int) a b).snd = (0 : Int))) = true → false = true) ∧ ((!decide ((vTwo (12 : Int) a b).snd = (0 : Int))) = false → True ∧ True ∧ (vYes (vTwo (9 : Int) a b).fst = true → ((!vYes (vTwo (10 : Int) a b).fst == true) = true → false = true) ∧ ((!vYes (vTwo (10 : Int) a b).fst == true) = false → True ∧ True ∧ ((vYes (vTwo (12 : Int) a b).fst == vYes (vTwo (11 : Int) a b).fst) = true → false = true) ∧ ((vYes (vTwo (12 : Int) a b).fst == vYes (vTwo (11 : Int) a b).fst) = false → (U8 (9 : Int) ∧ VlOk b ∧ VlOk c) ∧ (U8 (9 : Int) ∧ VlOk a ∧ VlOk c) ∧
      ((!decide ((vTwo (9 : Int) b c).snd = (0 : Int))) = true → true = true) ∧ ((!decide ((vTwo (9 : Int) b c).snd = (0 : Int))) = false → True ∧ ((!vYes (vTwo (9 : Int) a b).fst) = true → true = true) ∧ ((!vYes (vTwo (9 : Int) a b).fst) = false → True ∧ ((!vYes (vTwo (9 : Int) b c).fst) = true → true = true) ∧ ((!vYes (vTwo (9 : Int) b c).fst) = false → True ∧ vYes (vTwo (9 : Int) a c).fst = true)))))) ∧ (vYes (vTwo (9 : Int) a b).fst = false → True ∧ ((!vYes (vTwo (10 : Int) a b).fst == vYes (vTwo (11 : Int) a b).fst) = true → false = true) ∧ ((!vYes (vTwo (10 : Int) a b).fst == vYes (vTwo (11 : Int) a b).fst) = false → True ∧ True ∧ ((vYes (vTwo (12 : Int) a b).fst == vYes (vTwo (11 : Int) a b).fst) = true → false = true) ∧ ((vYes (vTwo (12 : Int) a b).fst == vYes (vTwo (11 : Int) a b).fst) = false → (U8 (9 : Int) ∧ VlOk b ∧ VlOk c) ∧ (U8 (9 : Int) ∧ VlOk a ∧ VlOk c) ∧ ((!decide ((vTwo (9 : Int) b c).snd = (0 : Int))) = true → true = true) ∧ ((!decide ((vTwo (9 : Int) b c).snd = (0 : Int))) = false → True ∧ ((!vYes (vTwo (9 : Int) a b).fst) = true → true = true) ∧ ((!vYes (vTwo (9 : Int) a b).fst) = false → True ∧ ((!vYes (vTwo (9 : Int) b c).fst) = true → true = true) ∧ ((!vYes (vTwo (9 : Int) b c).fst) = false → True ∧ vYes (vTwo (9 : Int) a c).fst = true)))))))))) ∧ (vYes (vTwo (9 : Int) b a).fst = false → True ∧ (vYes (vTwo (11 : Int) a b).fst = true → (U8 (10 : Int) ∧ VlOk a ∧ VlOk b) ∧ (U8 (12 : Int) ∧ VlOk a ∧ VlOk b) ∧
      ((!decide ((vTwo (10 : Int) a b).snd = (0 : Int))) = true → false = true) ∧ ((!decide ((vTwo (10 : Int) a b).snd = (0 : Int))) = false → ((!decide ((vTwo (12 : Int) a b).snd = (0 : Int))) = true → false = true) ∧ ((!decide ((vTwo (12 : Int) a b).snd = (0 : Int))) = false → True ∧ True ∧ (vYes (vTwo (9 : Int) a b).fst = true → ((!vYes (vTwo (10 : Int) a b).fst == true) = true → false = true) ∧ ((!vYes (vTwo (10 : Int) a b).fst == true) = false → True ∧ True ∧ ((vYes (vTwo (12 : Int) a b).fst == vYes (vTwo (11 : Int) a b).fst) = true → false = true) ∧ ((vYes (vTwo (12 : Int) a b).fst == vYes (vTwo (11 : Int) a b).fst) = false → (U8 (9 : Int) ∧ VlOk b ∧ VlOk c) ∧ (U8 (9 : Int) ∧ VlOk a ∧ VlOk c) ∧ ((!decide ((vTwo (9 : Int) b c).snd = (0 : Int))) = true → true = true) ∧ ((!decide ((vTwo (9 : Int) b c).snd = (0 : Int))) = false → True ∧ ((!vYes (vTwo (9 : Int) a b).fst) = true → true = true) ∧ ((!vYes (vTwo (9 : Int) a b).fst) = false → True ∧ ((!vYes (vTwo (9 : Int) b c).fst) = true → true = true) ∧ ((!vYes (vTwo (9 : Int) b c).fst) = false → True ∧ vYes (vTwo (9 : Int) a c).fst = true)))))) ∧ (vYes (vTwo (9 : Int) a b).fst = false → True ∧ ((!vYes (vTwo (10 : Int) a b).fst == vYes (vTwo (11 : Int) a b).fst) = true → false = true) ∧ ((!vYes (vTwo (10 : Int) a b).fst == vYes (vTwo (11 : Int) a b).fst) = false → True ∧ True ∧ ((vYes (vTwo (12 : Int) a b).fst == vYes (vTwo (11 : Int) a b).fst) = true → false = true) ∧
      ((vYes (vTwo (12 : Int) a b).fst == vYes (vTwo (11 : Int) a b).fst) = false → (U8 (9 : Int) ∧ VlOk b ∧ VlOk c) ∧ (U8 (9 : Int) ∧ VlOk a ∧ VlOk c) ∧ ((!decide ((vTwo (9 : Int) b c).snd = (0 : Int))) = true → true = true) ∧ ((!decide ((vTwo (9 : Int) b c).snd = (0 : Int))) = false → True ∧ ((!vYes (vTwo (9 : Int) a b).fst) = true → true = true) ∧ ((!vYes (vTwo (9 : Int) a b).fst) = false → True ∧ ((!vYes (vTwo (9 : Int) b c).fst) = true → true = true) ∧ ((!vYes (vTwo (9 : Int) b c).fst) = false → True ∧ vYes (vTwo (9 : Int) a c).fst = true))))))))) ∧ (vYes (vTwo (11 : Int) a b).fst = false → (U8 (10 : Int) ∧ VlOk a ∧ VlOk b) ∧ (U8 (12 : Int) ∧ VlOk a ∧ VlOk b) ∧ false = true))))))))) →
    vcF Try.prog St.none (specs es_order) [] (noAnn) Try.f5 [a.v, b.v, c.v] (.sb true) := fun h => Eq.mpr (by kernel_rfl) h
set_option maxRecDepth 100000 in
theorem order_ct (a b c : Vl) (ha : VlOk a) (hb : VlOk b) (hc : VlOk c) : Ct Try.prog St.none 5 [a.v, b.v, c.v] (.sb true) := Ct.of_vcF (specs_ok es_order_ok) Try.func5 (by kernel_rfl) (order_vc a b c (by
  have u9 : U8 9 := by simp [U8]
  have u10 : U8 10 := by simp [U8]
  have u11 : U8 11 := by simp [U8]
  have u12 : U8 12 := by simp [U8]
  by_cases hab : cmpK a b = true
  · have e1 := two9_yes hab
    have e2 := two9_yes (cmp_sym hab)
    have e3 := two11_yes hab
    have e4 := two10_yes hab
    have e5 := two12_yes hab
    by_cases hbc : cmpK b c = true
    · have e6 := two9_yes hbc
      have e7 := two9_yes (cmp_trans hab hbc).1
      have t := (cmp_trans hab hbc).2
      rw [e1, e2, e3, e4, e5, e6, e7]
      simp only [yes_truth]
      rcases cmp_tri hab with ⟨h1, h2, h3⟩ | ⟨h1, h2, h3⟩ | ⟨h1, h2, h3⟩ <;> rw [h1, h2, h3] <;> rw [h1] at t <;> generalize vLt b c = p at * <;> generalize vLt a c = q at * <;> cases p <;> cases q <;>
        simp [u9, u10, u11, u12, ha, hb, hc] at t ⊢
    · have e6 := two9_no (by simpa using hbc)
      rw [e1, e2, e3, e4, e5, e6]
      simp only [yes_truth]
      rcases cmp_tri hab with ⟨h1, h2, h3⟩ | ⟨h1, h2, h3⟩ | ⟨h1, h2, h3⟩ <;> rw [h1, h2, h3] <;> simp [u9, u10, u11, u12, ha, hb, hc]
  · have e1 := two9_no (a := a) (b := b) (by simpa using hab)
    rw [e1]
    simp [u9, u10, u11, u12, ha, hb, hc]))
end Go.Proofs.Ythnldpbkjegfaaa
