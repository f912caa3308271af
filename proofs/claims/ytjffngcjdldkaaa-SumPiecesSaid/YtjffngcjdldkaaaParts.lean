/-
  PLAIN: texts that part in one byte, or by two neighbours that change places, have unlike sums.
-/
import Derived.Test.YtjffngcjdldkaaaAdler
namespace Go.Proofs.Ytjffngcjdldkaaa.Adler

theorem fold_rng (l : List UInt8) (p : Int × Int) (h1 : 0 ≤ p.1) (h2 : p.1 ≤ 65520) (h3 : 0 ≤ p.2) (h4 : p.2 ≤ 65520) :
    0 ≤ (fold l p).1 ∧ (fold l p).1 ≤ 65520 ∧ 0 ≤ (fold l p).2 ∧ (fold l p).2 ≤ 65520 := fold_lim l p h1 h2 h3 h4

/-- a sum from 1 on tells the fold -/
theorem add_eq (l m : List UInt8) (h : add 1 l = add 1 m) : fold l (1, 0) = fold m (1, 0) := by
  have a := fold_rng l (1, 0) (by decide) (by decide) (by decide) (by decide)
  have b := fold_rng m (1, 0) (by decide) (by decide) (by decide) (by decide)
  have e1 : (lo 1, hi 1) = ((1, 0) : Int × Int) := by decide
  simp only [add, e1] at h
  ext <;> omega

theorem fst_inj (B : List UInt8) (p q : Int × Int) (hp : 0 ≤ p.1 ∧ p.1 ≤ 65520) (hq : 0 ≤ q.1 ∧ q.1 ≤ 65520) (h : (fold B p).1 = (fold B q).1) : p.1 = q.1 := by
  rw [fold_fst B p hp.1 hp.2, fold_fst B q hq.1 hq.2] at h
  omega

theorem snd_inj (B : List UInt8) (a b1 b2 : Int) (h1 : 0 ≤ b1 ∧ b1 ≤ 65520) (h2 : 0 ≤ b2 ∧ b2 ≤ 65520) (h : fold B (a, b1) = fold B (a, b2)) : b1 = b2 := by
  induction B generalizing a b1 b2 with
  | nil => simpa [fold] using h
  | cons c cs ih =>
    have := ih (stepA a c) (stepB b1 (stepA a c)) (stepB b2 (stepA a c)) (by simp only [stepB]; omega) (by simp only [stepB]; omega) (by simpa only [fold] using h)
    simp only [stepB] at this
    omega

theorem one_byte (A B : List UInt8) (c x : UInt8) (h : add 1 (A ++ x :: B) = add 1 (A ++ c :: B)) : x = c := by
  have h' := add_eq _ _ h
  rw [fold_append, fold_append] at h'
  have g := fold_rng A (1, 0) (by decide) (by decide) (by decide) (by decide)
  simp only [fold] at h'
  have := fst_inj B _ _ (by simp only [stepA]; omega) (by simp only [stepA]; omega) (congrArg Prod.fst h')
  have hx : x.toNat < 256 := x.toNat_lt
  have hc : c.toNat < 256 := c.toNat_lt
  simp only [stepA] at this
  exact UInt8.toNat.inj (by omega)

theorem two_bytes (A B : List UInt8) (x y : UInt8) (h : add 1 (A ++ y :: x :: B) = add 1 (A ++ x :: y :: B)) : x = y := by
  have h' := add_eq _ _ h
  rw [fold_append, fold_append] at h'
  have g := fold_rng A (1, 0) (by decide) (by decide) (by decide) (by decide)
  simp only [fold] at h'
  generalize fold A (1, 0) = p at g h'
  have hx : x.toNat < 256 := x.toNat_lt
  have hy : y.toNat < 256 := y.toNat_lt
  have e : stepA (stepA p.1 y) x = stepA (stepA p.1 x) y := by simp only [stepA]; omega
  rw [e] at h'
  have := snd_inj B _ _ _ (by simp only [stepB]; omega) (by simp only [stepB]; omega) h'
  simp only [stepA, stepB] at this
  exact UInt8.toNat.inj (by omega)

theorem set_split (l : List UInt8) (k : Nat) (hk : k < l.length) (x : UInt8) : l.set k x = l.take k ++ x :: l.drop (k + 1) := by
  rw [List.set_eq_take_append_cons_drop, if_pos hk]

theorem self_split (l : List UInt8) (k : Nat) (hk : k < l.length) : l = l.take k ++ l[k] :: l.drop (k + 1) := by
  rw [List.getElem_cons_drop, List.take_append_drop]

theorem set_sum (l : List UInt8) (k : Nat) (hk : k < l.length) (x : UInt8) : (l.set k x == l) = (add 1 (l.set k x) == add 1 l) := by
  rw [Bool.eq_iff_iff, beq_iff_eq, beq_iff_eq]
  refine ⟨fun h => by rw [h], fun h => ?_⟩
  rw [set_split l k hk] at h ⊢
  have hs := self_split l k hk
  have : x = l[k] := one_byte (l.take k) (l.drop (k + 1)) l[k] x (by rw [← hs]; exact h)
  rw [this, ← hs]

theorem swap_sum (l : List UInt8) (k : Nat) (hk : k + 1 < l.length) :
    ((l.set k (l.getD (k + 1) 0)).set (k + 1) (l.getD k 0) == l) = (add 1 ((l.set k (l.getD (k + 1) 0)).set (k + 1) (l.getD k 0)) == add 1 l) := by
  have hk0 : k < l.length := by omega
  have e1 : l.getD (k + 1) 0 = l[k + 1] := by simp [List.getD, hk]
  have e0 : l.getD k 0 = l[k] := by simp [List.getD, hk0]
  rw [e1, e0]
  have hs : l = l.take k ++ l[k] :: l[k + 1] :: l.drop (k + 2) := by
    rw [List.getElem_cons_drop (as := l) (i := k + 1), List.getElem_cons_drop, List.take_append_drop]
  have hL : (l.set k l[k + 1]).set (k + 1) l[k] = l.take k ++ l[k + 1] :: l[k] :: l.drop (k + 2) := by
    rw [set_split l k hk0]
    have hlen : (l.take k).length = k := by simp; omega
    rw [List.set_append_right _ _ (by omega), hlen]
    have : k + 1 - k = 1 := by omega
    rw [this]
    have hd : l.drop (k + 1) = l[k + 1] :: l.drop (k + 2) := by rw [List.getElem_cons_drop]
    rw [hd]
    rfl
  rw [Bool.eq_iff_iff, beq_iff_eq, beq_iff_eq]
  refine ⟨fun h => by rw [h], fun h => ?_⟩
  rw [hL] at h ⊢
  have : l[k] = l[k + 1] := two_bytes (l.take k) (l.drop (k + 2)) l[k] l[k + 1] (by rw [← hs]; exact h)
  rw [← this]
  have hs' := hs
  rw [← this] at hs'
  exact hs'.symm

end Go.Proofs.Ytjffngcjdldkaaa.Adler
