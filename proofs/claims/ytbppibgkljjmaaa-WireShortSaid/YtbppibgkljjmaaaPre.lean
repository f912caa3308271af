/-
  PLAIN: no number's bytes begin by another one's; so no text's, and no value's.
-/
import Derived.Test.YtbppibgkljjmaaaWr
namespace Go.Proofs.Ytbppibgkljjmaaa
open Go.RowKit
open Sept (sept)

theorem ofNat_inj {a b : Nat} (ha : a < 256) (hb : b < 256) (h : UInt8.ofNat a = UInt8.ofNat b) : a = b := by
  have := congrArg UInt8.toNat h
  simpa [UInt8.toNat_ofNat', Nat.mod_eq_of_lt ha, Nat.mod_eq_of_lt hb] using this

theorem sept_prefix (m n : Nat) (A B : List UInt8) (h : sept m ++ A <+: sept n ++ B) : m = n ∧ A <+: B := by
  induction m using Nat.strongRecOn generalizing n A B with
  | ind m ih =>
    by_cases hm : m < 128 <;> by_cases hn : n < 128
    · rw [Sept.sept_small m hm, Sept.sept_small n hn] at h
      simp only [List.singleton_append, List.cons_prefix_cons] at h
      exact ⟨ofNat_inj (by omega) (by omega) h.1, h.2⟩
    · rw [Sept.sept_small m hm, Sept.sept_step n (by omega)] at h
      simp only [List.cons_append, List.nil_append, List.cons_prefix_cons] at h
      have := ofNat_inj (a := m) (b := n % 128 + 128) (by omega) (by omega) h.1
      omega
    · rw [Sept.sept_step m (by omega), Sept.sept_small n hn] at h
      simp only [List.cons_append, List.nil_append, List.cons_prefix_cons] at h
      have := ofNat_inj (a := m % 128 + 128) (b := n) (by omega) (by omega) h.1
      omega
    · rw [Sept.sept_step m (by omega), Sept.sept_step n (by omega)] at h
      simp only [List.cons_append, List.cons_prefix_cons] at h
      have h1 := ofNat_inj (a := m % 128 + 128) (b := n % 128 + 128) (by omega) (by omega) h.1
      have h2 := ih (m / 128) (by omega) (n / 128) A B h.2
      exact ⟨by omega, h2.2⟩

theorem sept_pre (m n : Nat) : (sept m <+: sept n) ↔ m = n := by
  constructor
  · intro h
    exact (sept_prefix m n [] [] (by simpa using h)).1
  · rintro rfl; exact List.prefix_rfl

theorem sept_mono (m n : Nat) (h : m ≤ n) : (sept m).length ≤ (sept n).length := by
  induction n using Nat.strongRecOn generalizing m with
  | ind n ih =>
    by_cases hm : m < 128
    · rw [Sept.sept_small m hm]; have := Sept.sept_length_pos n; simp; omega
    · rw [Sept.sept_step m (by omega), Sept.sept_step n (by omega)]
      have := ih (n / 128) (by omega) (m / 128) (by omega)
      simpa using this

theorem zig_inj (x y : Int) (h : zig x = zig y) : x = y := by
  unfold zig at h
  split at h <;> split at h <;> omega

/-- does a begin b? -/
def begins (a b : ByteArray) : Bool := decide (a.data.toList <+: b.data.toList)

theorem begins_int (x y : Int) : begins (txt (sept (zig x))) (txt (sept (zig y))) = (x == y) := by
  unfold begins txt
  rw [Bool.eq_iff_iff, decide_eq_true_eq, beq_iff_eq]
  simp only
  rw [sept_pre]
  exact ⟨zig_inj x y, fun h => by rw [h]⟩

theorem toList_size (t : ByteArray) : t.data.toList.length = t.size := Array.length_toList

theorem begins_text (t u : ByteArray) : begins (txt (sept t.size) ++ t) (txt (sept u.size) ++ u) = decide (t = u) := by
  unfold begins txt
  rw [Bool.eq_iff_iff, decide_eq_true_eq, decide_eq_true_eq]
  simp only [ByteArray.data_append, Array.toList_append]
  constructor
  · intro h
    obtain ⟨h1, h2⟩ := sept_prefix _ _ _ _ h
    have h3 : t.data.toList = u.data.toList := h2.eq_of_length (by rw [toList_size, toList_size, h1])
    exact ByteArray.ext (Array.ext' h3)
  · rintro rfl; exact List.prefix_rfl

/-- the code of a value that may be told -/
def code (k N : Int) (T : ByteArray) : List UInt8 :=
  sept k.toNat ++ (if k = 1 then sept (zig N) else if k = 2 then sept N.toNat else if k = 3 then sept T.size ++ T.data.toList else [])

theorem txt_data (l : List UInt8) : (txt l).data.toList = l := by simp [txt]

theorem valTxt_code (k N : Int) (T : ByteArray) : (valTxt ⟨#[]⟩ k N T).data.toList = code k N T := by
  unfold valTxt code
  by_cases h1 : k = 1
  · simp [h1, txt]
  · by_cases h2 : k = 2
    · subst h2; simp [txt]
    · by_cases h3 : k = 3
      · subst h3; simp [txt]
      · simp [h1, h2, h3, txt]

theorem enc_cases {k N : Int} {T : ByteArray} (h : enc k N T = true) : (k = 0 ∧ N = 0 ∧ T = ⟨#[]⟩) ∨ (k = 1 ∧ T = ⟨#[]⟩) ∨ (k = 2 ∧ 0 ≤ N ∧ T = ⟨#[]⟩) ∨ (k = 3 ∧ N = 0) := by
  unfold enc at h
  split at h
  · simp at h; exact .inl ⟨‹_›, h.1, h.2⟩
  · split at h
    · simp at h; exact .inr (.inl ⟨‹_›, h⟩)
    · split at h
      · simp at h; exact .inr (.inr (.inl ⟨‹_›, by omega, h.2⟩))
      · split at h
        · simp at h; exact .inr (.inr (.inr ⟨‹_›, h.1⟩))
        · cases h

theorem code_pre (k N k' N' : Int) (T T' : ByteArray) (h0 : 0 ≤ k) (h0' : 0 ≤ k') (he : enc k N T = true) (he' : enc k' N' T' = true) (h : code k N T <+: code k' N' T') : k = k' ∧ N = N' ∧ T = T' := by
  unfold code at h
  obtain ⟨h1, h2⟩ := sept_prefix _ _ _ _ h
  have hk : k = k' := by omega
  subst hk
  refine ⟨rfl, ?_⟩
  rcases enc_cases he with ⟨rfl, rfl, rfl⟩ | ⟨rfl, rfl⟩ | ⟨rfl, hn, rfl⟩ | ⟨rfl, rfl⟩ <;> rcases enc_cases he' with ⟨e1, e2, e3⟩ | ⟨e1, e3⟩ | ⟨e1, e2, e3⟩ | ⟨e1, e2⟩ <;> try omega
  · exact ⟨e2.symm, e3.symm⟩
  · simp at h2
    rw [sept_pre] at h2
    exact ⟨zig_inj _ _ h2, e3.symm⟩
  · simp at h2
    rw [sept_pre] at h2
    exact ⟨by omega, e3.symm⟩
  · simp at h2
    obtain ⟨h3, h4⟩ := sept_prefix _ _ _ _ h2
    have h5 : T.data.toList = T'.data.toList := h4.eq_of_length (by rw [toList_size, toList_size, h3])
    exact ⟨e2.symm, ByteArray.ext (Array.ext' h5)⟩

theorem begins_val (k N k' N' : Int) (T T' : ByteArray) (h0 : 0 ≤ k) (h0' : 0 ≤ k') (he : enc k N T = true) (he' : enc k' N' T' = true) :
    begins (valTxt ⟨#[]⟩ k N T) (valTxt ⟨#[]⟩ k' N' T') = decide (k = k' ∧ N = N' ∧ T = T') := by
  unfold begins
  rw [Bool.eq_iff_iff, decide_eq_true_eq, decide_eq_true_eq, valTxt_code, valTxt_code]
  constructor
  · exact code_pre k N k' N' T T' h0 h0' he he'
  · rintro ⟨rfl, rfl, rfl⟩; exact List.prefix_rfl

end Go.Proofs.Ytbppibgkljjmaaa
