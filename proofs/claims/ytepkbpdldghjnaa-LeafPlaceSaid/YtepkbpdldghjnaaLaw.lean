/-
  Package leaf: which nodes may be, where a key's place among branches is; and the law LeafPlace.
-/
import Derived.Test.YtepkbpdldghjnaaSr
import Derived.Test.YtepkbpdldghjnaaP1
import Derived.Test.YtepkbpdldghjnaaProg
import Derived.Test.YtepkbpdldghjnaaSe
set_option linter.unusedVariables false
set_option linter.unusedSimpArgs false
noncomputable section
namespace Go.Proofs.Ytepkbpdldghjnaa
open Go Go.RowKit Go.Proofs Go.Proofs.Ytepkbpdldghjnaa.Sv
structure En where
  key : List UInt8
  val : List UInt8
def En.v (x : En) : V := .agg [.ss x.key, .ss x.val]
def en0 : En := ⟨[], []⟩
structure Br where
  key : List UInt8
  page : Int
def Br.v (x : Br) : V := .agg [.ss x.key, .si .i64 x.page]
def br0 : Br := ⟨[], 0⟩
structure Nd where
  leaf : Bool
  en : List En
  br : List Br
def lE (L : List En) : V := .ro false L.length 2 (fun k => (L.getD k en0).v)
def lB (L : List Br) : V := .ro false L.length 2 (fun k => (L.getD k br0).v)
def Nd.v (x : Nd) : V := .agg [.sb x.leaf, lE x.en, lB x.br]
theorem ofFz_ren (fz : Nat → Nat → Option Value) : (Sg.ofFz fz).ren (fun _ => none) = Sg.ofFz fz := rfl
/-- whatever can be told by its parts -/
def tD {α : Type} (dec : V → α) (of : α → V) : TyC α where
  to v := some (some (leV (fun _ => none) v (of (dec v))), dec v)
  of := of
  ok v p a h hp fz z r := by
    cases h
    exact leV_sound _ _ _ (Sg.ofFz fz) _ (hp _ rfl) r
def sS (v : V) : List UInt8 := match v.asS with | some l => l | none => []
def sB (v : V) : Bool := match v.asB with | some b => b | none => false
def sI (v : V) : Int := match v.asI with | some (_, n) => n | none => 0
def decEn (v : V) : En := match v with | .agg [a, b] => ⟨sS a, sS b⟩ | _ => en0
def decBr (v : V) : Br := match v with | .agg [a, b] => ⟨sS a, sI b⟩ | _ => br0
def decLE (v : V) : List En := match v with
  | .ro _ n _ es => (List.range n).map fun k => decEn (es k)
  | _ => []
def decLB (v : V) : List Br := match v with
  | .ro _ n _ es => (List.range n).map fun k => decBr (es k)
  | _ => []
theorem decLE_v (L : List En) : decLE (lE L) = L := map_dec L en0 (fun x => x) fun _ => rfl
theorem decLB_v (L : List Br) : decLB (lB L) = L := map_dec L br0 (fun x => x) fun _ => rfl
def decNd (v : V) : Nd := match v with | .agg [a, b, c] => ⟨sB a, decLE b, decLB c⟩ | _ => ⟨false, [], []⟩
theorem decNd_v (x : Nd) : decNd x.v = x := by
  show Nd.mk x.leaf (decLE (lE x.en)) (decLB (lB x.br)) = x
  rw [decLE_v, decLB_v]
theorem decNd_agg (a : Bool) (L : List En) (M : List Br) : decNd (.agg [.sb a, .ro false L.length 2 (fun k => (L.getD k en0).v), .ro false M.length 2 (fun k => (M.getD k br0).v)]) = ⟨a, L, M⟩ := decNd_v ⟨a, L, M⟩
theorem decLB_ro (L : List Br) : decLB (.ro false L.length 2 (fun k => (L.getD k br0).v)) = L := decLB_v L
theorem decEn_v (x : En) : decEn x.v = x := rfl
theorem decBr_v (x : Br) : decBr x.v = x := rfl
theorem decEn_agg (a b : List UInt8) : decEn (.agg [.ss a, .ss b]) = ⟨a, b⟩ := rfl
theorem decBr_agg (a : List UInt8) (b : Int) : decBr (.agg [.ss a, .si .i64 b]) = ⟨a, b⟩ := rfl
theorem map_getD {α : Type} (L : List α) (d : α) : ((List.range L.length).map fun k => L.getD k d) = L := map_dec L d (fun x => x) fun _ => rfl
theorem all_succ (f : Nat → Bool) (a : Nat) : (List.range (a + 1)).all f = ((List.range a).all f && f a) := by
  rw [List.range_succ, List.all_append]; simp
theorem all_false {f : Nat → Bool} {a n : Nat} (h : a < n) (hf : f a = false) : (List.range n).all f = false := by
  rw [Bool.eq_false_iff]; intro h2
  have := List.all_eq_true.1 h2 a (List.mem_range.2 h)
  rw [hf] at this; cases this
theorem wr1 {a n : Nat} (h : a < n) (hn : n ≤ 4000000000000) : IntKind.i64.wrap ((a : Int) + 1) = ((a + 1 : Nat) : Int) := by
  rw [wrap_i64 (by unfold I64; omega)]; rfl
theorem nn (k : Nat) : (0 : Int) ≤ (k : Int) := Int.natCast_nonneg k
noncomputable def es_entries : List Ent := []
theorem es_entries_ok : EntsOk Try.prog St.none es_entries := trivial
set_option maxRecDepth 100000 in
theorem entries_vc (L : List En) :
    ((∃ (a : Nat), a.le L.length ∧ True ∧ ((True ∧ L.length = L.length ∧ True ∧ ∀ (i : Nat), i < L.length → (L.getD i en0).key = (L.getD i en0).key ∧ (L.getD i en0).val = (L.getD i en0).val ∧ True) ∧ a = (0 : Nat) ∧ True ∧ (0 : Int) = (↑a : Int)) ∧ True) ∧ ∀ (a : Nat), a.le L.length → (decide ((↑a : Int) < (↑L.length : Int)) = true → ((0 : Int) ≤ (↑a : Int) ∧ (↑a : Int) < (↑L.length : Int)) ∧ (totN [some a] + totN (List.replicate (1 : Nat) none)) * nat_lit 32 ≤ (140737488355328 : Nat) ∧ ∃ (a' : Nat), a'.le L.length ∧ L.length - a' < L.length - a ∧ True ∧ ((True ∧ L.length = L.length ∧ True ∧ ∀ (i : Nat), i < L.length → (L.getD i en0).key = (L.getD i en0).key ∧ (L.getD i en0).val = (L.getD i en0).val ∧ True) ∧ (a + (1 : Nat) = a' ∧ (∀ (k : Nat), k < a → (L.getD k en0).key = (L.getD k en0).key ∧ (L.getD k en0).val = (L.getD k en0).val ∧ True) ∧ ((L.getD (↑a : Int).toNat en0).key = (L.getD a en0).key ∧ (L.getD (↑a : Int).toNat en0).val = (L.getD a en0).val ∧ True) ∧ True) ∧ True ∧ IntKind.i64.wrap ((↑a : Int) + (1 : Int)) = (↑a' : Int)) ∧ True) ∧ (decide ((↑a : Int) < (↑L.length : Int)) = false → True ∧ a = L.length ∧ True ∧ ∀ (i : Nat), i < L.length → (L.getD i en0).key = (L.getD i en0).key ∧ (L.getD i en0).val = (L.getD i en0).val ∧ True)) →
    vcF Try.prog St.none (specs es_entries) [] (({ loops := loopsAt [(3, { α := Nat, inv := fun i fm st => ({ fm with tm := (fm.tm.set 4 (some (.si .i64 (i : Int)))).set 3 (some (.acc st.next 2 [some i] (fun _ k => (L.getD k en0).v))) }, st.add .tip), pre := fun i => i ≤ L.length, mu := fun i => L.length - i })] } : Ann)) Try.f11 [lE L] (lE L) := fun h => Eq.mpr (by kernel_rfl) h
set_option maxRecDepth 100000 in
theorem entries_ct (L : List En) (hL : L.length ≤ 4000000000000) : Ct Try.prog St.none 11 [lE L] (lE L) := Ct.of_vcF (specs_ok es_entries_ok) Try.func11 (by kernel_rfl) (entries_vc L (by
  simp only [true_and, and_true, eq_self, implies_true, and_self, Int.toNat_natCast]
  refine ⟨⟨0, Nat.zero_le _, rfl, rfl⟩, fun a ha => ⟨fun h => ?_, fun h => ?_⟩⟩
  · have hlt : a < L.length := by have := of_decide_eq_true h; omega
    refine ⟨⟨nn a, Int.ofNat_lt.2 hlt⟩, ?_, a + 1, hlt, by omega, rfl, wr1 hlt hL⟩
    simp only [totN, segN, totN_replicate]; omega
  · have : a = L.length := by have := of_decide_eq_false h; have ha : a ≤ L.length := ha; omega
    subst this
    first | rfl | exact ⟨rfl, fun i hi => rfl⟩ | trivial))
noncomputable def e_entries : Ent := entC1 11 (tL 2 decEn En.v en0) (fun L => L.length ≤ 4000000000000) (fun L => lE L)
theorem entries_ok : e_entries.ok Try.prog St.none := entC1_ok fun L h => entries_ct L h
noncomputable def es_branches : List Ent := []
theorem es_branches_ok : EntsOk Try.prog St.none es_branches := trivial
set_option maxRecDepth 100000 in
theorem branches_vc (L : List Br) :
    ((∃ (a : Nat), a.le L.length ∧ True ∧ ((True ∧ L.length = L.length ∧ True ∧ ∀ (i : Nat), i < L.length → (L.getD i br0).key = (L.getD i br0).key ∧ (L.getD i br0).page = (L.getD i br0).page ∧ True) ∧ a = (0 : Nat) ∧ True ∧ (0 : Int) = (↑a : Int)) ∧ True) ∧ ∀ (a : Nat), a.le L.length → (decide ((↑a : Int) < (↑L.length : Int)) = true → ((0 : Int) ≤ (↑a : Int) ∧ (↑a : Int) < (↑L.length : Int)) ∧ (totN [some a] + totN (List.replicate (1 : Nat) none)) * nat_lit 24 ≤ (140737488355328 : Nat) ∧ ∃ (a' : Nat), a'.le L.length ∧ L.length - a' < L.length - a ∧ True ∧ ((True ∧ L.length = L.length ∧ True ∧ ∀ (i : Nat), i < L.length → (L.getD i br0).key = (L.getD i br0).key ∧ (L.getD i br0).page = (L.getD i br0).page ∧ True) ∧ (a + (1 : Nat) = a' ∧ (∀ (k : Nat), k < a → (L.getD k br0).key = (L.getD k br0).key ∧ (L.getD k br0).page = (L.getD k br0).page ∧ True) ∧ ((L.getD (↑a : Int).toNat br0).key = (L.getD a br0).key ∧ (L.getD (↑a : Int).toNat br0).page = (L.getD a br0).page ∧ True) ∧ True) ∧ True ∧ IntKind.i64.wrap ((↑a : Int) + (1 : Int)) = (↑a' : Int)) ∧ True) ∧ (decide ((↑a : Int) < (↑L.length : Int)) = false → True ∧ a = L.length ∧ True ∧ ∀ (i : Nat), i < L.length → (L.getD i br0).key = (L.getD i br0).key ∧ (L.getD i br0).page = (L.getD i br0).page ∧ True)) →
    vcF Try.prog St.none (specs es_branches) [] (({ loops := loopsAt [(3, { α := Nat, inv := fun i fm st => ({ fm with tm := (fm.tm.set 4 (some (.si .i64 (i : Int)))).set 3 (some (.acc st.next 2 [some i] (fun _ k => (L.getD k br0).v))) }, st.add .tip), pre := fun i => i ≤ L.length, mu := fun i => L.length - i })] } : Ann)) Try.f12 [lB L] (lB L) := fun h => Eq.mpr (by kernel_rfl) h
set_option maxRecDepth 100000 in
theorem branches_ct (L : List Br) (hL : L.length ≤ 4000000000000) : Ct Try.prog St.none 12 [lB L] (lB L) := Ct.of_vcF (specs_ok es_branches_ok) Try.func12 (by kernel_rfl) (branches_vc L (by
  simp only [true_and, and_true, eq_self, implies_true, and_self, Int.toNat_natCast]
  refine ⟨⟨0, Nat.zero_le _, rfl, rfl⟩, fun a ha => ⟨fun h => ?_, fun h => ?_⟩⟩
  · have hlt : a < L.length := by have := of_decide_eq_true h; omega
    refine ⟨⟨nn a, Int.ofNat_lt.2 hlt⟩, ?_, a + 1, hlt, by omega, rfl, wr1 hlt hL⟩
    simp only [totN, segN, totN_replicate]; omega
  · have : a = L.length := by have := of_decide_eq_false h; have ha : a ≤ L.length := ha; omega
    subst this
    first | rfl | exact ⟨rfl, fun i hi => rfl⟩ | trivial))
noncomputable def e_branches : Ent := entC1 12 (tL 2 decBr Br.v br0) (fun L => L.length ≤ 4000000000000) (fun L => lB L)
theorem branches_ok : e_branches.ok Try.prog St.none := entC1_ok fun L h => branches_ct L h
noncomputable def es_given : List Ent := [e_entries, e_branches]
theorem es_given_ok : EntsOk Try.prog St.none es_given := ⟨entries_ok, branches_ok, trivial⟩
set_option maxRecDepth 100000 in
theorem given_vc (x : Nd) :
    (((∀ (k : Nat), k < x.en.length → (x.en.getD k en0).key = (decEn (x.en.getD k en0).v).key ∧ (x.en.getD k en0).val = (decEn (x.en.getD k en0).v).val ∧ True) ∧ (List.map (fun (k : Nat) => decEn (x.en.getD k en0).v) (List.range x.en.length)).length ≤ (4000000000000 : Nat)) ∧ ((∀ (k : Nat), k < x.br.length → (x.br.getD k br0).key = (decBr (x.br.getD k br0).v).key ∧ (x.br.getD k br0).page = (decBr (x.br.getD k br0).v).page ∧ True) ∧ (List.map (fun (k : Nat) => decBr (x.br.getD k br0).v) (List.range x.br.length)).length ≤ (4000000000000 : Nat)) ∧ x.leaf = x.leaf ∧ (True ∧ (List.map (fun (k : Nat) => decEn (x.en.getD k en0).v) (List.range x.en.length)).length = x.en.length ∧ True ∧ ∀ (i : Nat), i < x.en.length → ((List.map (fun (k : Nat) => decEn (x.en.getD k en0).v) (List.range x.en.length)).getD i en0).key = (x.en.getD i en0).key ∧ ((List.map (fun (k : Nat) => decEn (x.en.getD k en0).v) (List.range x.en.length)).getD i en0).val = (x.en.getD i en0).val ∧ True) ∧ (True ∧ (List.map (fun (k : Nat) => decBr (x.br.getD k br0).v) (List.range x.br.length)).length = x.br.length ∧ True ∧ ∀ (i : Nat), i < x.br.length → ((List.map (fun (k : Nat) => decBr (x.br.getD k br0).v) (List.range x.br.length)).getD i br0).key = (x.br.getD i br0).key ∧ ((List.map (fun (k : Nat) => decBr (x.br.getD k br0).v) (List.range x.br.length)).getD i br0).page = (x.br.getD i br0).page ∧ True) ∧ True) →
    vcF Try.prog St.none (specs es_given) [] (noAnn) Try.f6 [x.v] (x.v) := fun h => Eq.mpr (by kernel_rfl) h
set_option maxRecDepth 100000 in
theorem given_ct (x : Nd) (h1 : x.en.length ≤ 4000000000000) (h2 : x.br.length ≤ 4000000000000) : Ct Try.prog St.none 6 [x.v] (x.v) := Ct.of_vcF (specs_ok es_given_ok) Try.func6 (by kernel_rfl) (given_vc x (by
  simp only [decEn_agg, decBr_agg, decEn_v, decBr_v, map_getD, true_and, and_true, eq_self, implies_true, and_self]
  first | exact ⟨h1, h2⟩ | simp [h1, h2]))
noncomputable def e_given : Ent := entC1 6 (tD decNd Nd.v) (fun x => x.en.length ≤ 4000000000000 ∧ x.br.length ≤ 4000000000000) (fun x => x.v)
theorem given_ok : e_given.ok Try.prog St.none := entC1_ok fun x h => given_ct x h.1 h.2
def okE (L : List En) (i : Nat) : Bool := decide (1 ≤ ((L.getD i en0).key.length : Int)) && decide (((L.getD i en0).key.length : Int) ≤ 24) && decide (((L.getD i en0).val.length : Int) ≤ 100) && (decide (i = 0) || Op.bytesLess (L.getD (i - 1) en0).key (L.getD i en0).key)
def okB (L : List Br) (i : Nat) : Bool := decide (((L.getD i br0).key.length : Int) ≤ 24) && decide (2 ≤ (L.getD i br0).page) && decide ((L.getD i br0).page < 1024) && (decide (i = 0) || Op.bytesLess (L.getD (i - 1) br0).key (L.getD i br0).key)
noncomputable def es_mayE : List Ent := []
theorem es_mayE_ok : EntsOk Try.prog St.none es_mayE := trivial
set_option maxRecDepth 100000 in
theorem mayE_vc (L : List En) :
    ((∃ (a : Nat), (a ≤ L.length ∧ (List.range a).all (okE L) = true) ∧ True ∧ ((True ∧ L.length = L.length ∧ True ∧ ∀ (i : Nat), i < L.length → (L.getD i en0).key = (L.getD i en0).key ∧ (L.getD i en0).val = (L.getD i en0).val ∧ True) ∧ (0 : Int) = (↑a : Int) ∧ (True ∧ L.length = L.length ∧ True ∧ ∀ (i : Nat), i < L.length → (L.getD i en0).key = (L.getD i en0).key ∧ (L.getD i en0).val = (L.getD i en0).val ∧ True) ∧ (↑L.length : Int) = (↑L.length : Int)) ∧ True) ∧ ∀ (a : Nat), a ≤ L.length ∧ (List.range a).all (okE L) = true → (decide ((↑a : Int) < (↑L.length : Int)) = true → ((0 : Int) ≤ (↑a : Int) ∧ (↑a : Int) < (↑L.length : Int)) ∧ (decide ((↑(L.getD (↑a : Int).toNat en0).key.length : Int) < (1 : Int)) = true → false = (List.range L.length).all (okE L)) ∧ (decide ((↑(L.getD (↑a : Int).toNat en0).key.length : Int) < (1 : Int)) = false → (decide ((24 : Int) < (↑(L.getD (↑a : Int).toNat en0).key.length : Int)) = true → false = (List.range L.length).all (okE L)) ∧ (decide ((24 : Int) < (↑(L.getD (↑a : Int).toNat en0).key.length : Int)) = false → (decide ((100 : Int) < (↑(L.getD (↑a : Int).toNat en0).val.length : Int)) = true → false = (List.range L.length).all (okE L)) ∧ (decide ((100 : Int) < (↑(L.getD (↑a : Int).toNat en0).val.length : Int)) = false → (decide ((0 : Int) < (↑a : Int)) = true → ((0 : Int) ≤ IntKind.i64.wrap ((↑a : Int) - (1 : Int)) ∧ IntKind.i64.wrap ((↑a : Int) - (1 : Int)) < (↑L.length : Int)) ∧
      ((!Op.bytesLess (L.getD (IntKind.i64.wrap ((↑a : Int) - (1 : Int))).toNat en0).key (L.getD (↑a : Int).toNat en0).key) = true → false = (List.range L.length).all (okE L)) ∧ ((!Op.bytesLess (L.getD (IntKind.i64.wrap ((↑a : Int) - (1 : Int))).toNat en0).key (L.getD (↑a : Int).toNat en0).key) = false → ∃ (a' : Nat), (a' ≤ L.length ∧ (List.range a').all (okE L) = true) ∧ L.length - a' < L.length - a ∧ True ∧ ((True ∧ L.length = L.length ∧ True ∧ ∀ (i : Nat), i < L.length → (L.getD i en0).key = (L.getD i en0).key ∧ (L.getD i en0).val = (L.getD i en0).val ∧ True) ∧ IntKind.i64.wrap ((↑a : Int) + (1 : Int)) = (↑a' : Int) ∧ (True ∧ L.length = L.length ∧ True ∧ ∀ (i : Nat), i < L.length → (L.getD i en0).key = (L.getD i en0).key ∧ (L.getD i en0).val = (L.getD i en0).val ∧ True) ∧ (↑L.length : Int) = (↑L.length : Int)) ∧ True)) ∧ (decide ((0 : Int) < (↑a : Int)) = false → ∃ (a' : Nat), (a' ≤ L.length ∧ (List.range a').all (okE L) = true) ∧ L.length - a' < L.length - a ∧ True ∧ ((True ∧ L.length = L.length ∧ True ∧ ∀ (i : Nat), i < L.length → (L.getD i en0).key = (L.getD i en0).key ∧ (L.getD i en0).val = (L.getD i en0).val ∧ True) ∧ IntKind.i64.wrap ((↑a : Int) + (1 : Int)) = (↑a' : Int) ∧ (True ∧ L.length = L.length ∧ True ∧ ∀ (i : Nat), i < L.length → (L.getD i en0).key = (L.getD i en0).key ∧ (L.getD i en0).val = (L.getD i en0).val ∧ True) ∧ (↑L.length : Int) = (↑L.length : Int)) ∧ True))))) ∧ (decide ((↑a : Int) < (↑L.length : Int)) = false → true = (List.range L.length).all (okE L))) →
    vcF Try.prog St.none (specs es_mayE) [] (({ loops := loopsAt [(2, { α := Nat, inv := fun i fm st => ({ fm with tm := fm.tm.set 7 (some (.si .i64 (i : Int))) }, st), pre := fun i => i ≤ L.length ∧ (List.range i).all (okE L) = true, mu := fun i => L.length - i })] } : Ann)) Try.f13 [lE L] (.sb ((List.range L.length).all (okE L))) := fun h => Eq.mpr (by kernel_rfl) h
set_option maxRecDepth 100000 in
theorem mayE_ct (L : List En) (hL : L.length ≤ 4000000000000) : Ct Try.prog St.none 13 [lE L] (.sb ((List.range L.length).all (okE L))) := Ct.of_vcF (specs_ok es_mayE_ok) Try.func13 (by kernel_rfl) (mayE_vc L (by
  simp only [true_and, and_true, eq_self, implies_true, and_self, Int.toNat_natCast]
  refine ⟨⟨0, ⟨Nat.zero_le _, rfl⟩, rfl⟩, fun a ha => ?_⟩
  obtain ⟨ha, hall⟩ := ha
  have ha : a ≤ L.length := ha
  by_cases h : a < L.length
  · have hi := Int.ofNat_lt.2 h
    have hw := wr1 h hL
    have w1 : 0 < a → IntKind.i64.wrap ((a : Int) - 1) = ((a - 1 : Nat) : Int) := fun h0 => by
      rw [wrap_i64 (by unfold I64; omega)]; omega
    have no : okE L a = false → (List.range L.length).all (okE L) = false := fun hf => all_false h hf
    have yes : okE L a = true → ∃ a', (a' ≤ L.length ∧ (List.range a').all (okE L) = true) ∧ L.length - a' < L.length - a ∧ IntKind.i64.wrap ((a : Int) + 1) = ((a' : Nat) : Int) := fun hf =>
      ⟨a + 1, ⟨h, by rw [all_succ, hall, hf]; rfl⟩, by omega, hw⟩
    refine ⟨fun _ => ⟨⟨nn a, hi⟩, fun c => (no ?_).symm, fun c1 => ⟨fun c => (no ?_).symm, fun c2 => ⟨fun c => (no ?_).symm, fun c3 => ⟨fun h0 => ?_, fun h0 => yes ?_⟩⟩⟩⟩, fun c => absurd h (by have := of_decide_eq_false c; omega)⟩
    · have e : decide (1 ≤ ((L.getD a en0).key.length : Int)) = false := decide_eq_false (by have := of_decide_eq_true c; omega)
      simp only [okE, e, Bool.false_and]
    · have e : decide (((L.getD a en0).key.length : Int) ≤ 24) = false := decide_eq_false (by have := of_decide_eq_true c; omega)
      simp only [okE, e, Bool.false_and, Bool.and_false]
    · have e : decide (((L.getD a en0).val.length : Int) ≤ 100) = false := decide_eq_false (by have := of_decide_eq_true c; omega)
      simp only [okE, e, Bool.false_and, Bool.and_false]
    · have h0 : 0 < a := by have := of_decide_eq_true h0; omega
      rw [w1 h0]; simp only [Int.toNat_natCast]
      refine ⟨⟨nn _, Int.ofNat_lt.2 (by omega)⟩, fun c => (no ?_).symm, fun c => yes ?_⟩
      · have e : decide (a = 0) = false := decide_eq_false (by omega)
        have e2 : Op.bytesLess (L.getD (a - 1) en0).key (L.getD a en0).key = false := by simpa using c
        simp only [okE, e, e2, Bool.or_false, Bool.and_false]
      · have e2 : Op.bytesLess (L.getD (a - 1) en0).key (L.getD a en0).key = true := by simpa using c
        have e3 : decide (1 ≤ ((L.getD a en0).key.length : Int)) = true := decide_eq_true (by have := of_decide_eq_false c1; omega)
        have e4 : decide (((L.getD a en0).key.length : Int) ≤ 24) = true := decide_eq_true (by have := of_decide_eq_false c2; omega)
        have e5 : decide (((L.getD a en0).val.length : Int) ≤ 100) = true := decide_eq_true (by have := of_decide_eq_false c3; omega)
        simp only [okE, e2, e3, e4, e5, Bool.or_true, Bool.and_true]
    · have e2 : decide (a = 0) = true := decide_eq_true (by have := of_decide_eq_false h0; omega)
      have e3 : decide (1 ≤ ((L.getD a en0).key.length : Int)) = true := decide_eq_true (by have := of_decide_eq_false c1; omega)
      have e4 : decide (((L.getD a en0).key.length : Int) ≤ 24) = true := decide_eq_true (by have := of_decide_eq_false c2; omega)
      have e5 : decide (((L.getD a en0).val.length : Int) ≤ 100) = true := decide_eq_true (by have := of_decide_eq_false c3; omega)
      simp only [okE, e2, e3, e4, e5, Bool.true_or, Bool.and_true]
  · have : a = L.length := by omega
    subst this
    simp [hall]))
noncomputable def e_mayE : Ent := entC1 13 (tL 2 decEn En.v en0) (fun L => L.length ≤ 4000000000000) (fun L => .sb ((List.range L.length).all (okE L)))
theorem mayE_ok : e_mayE.ok Try.prog St.none := entC1_ok fun L h => mayE_ct L h
noncomputable def es_mayB : List Ent := []
theorem es_mayB_ok : EntsOk Try.prog St.none es_mayB := trivial
set_option maxRecDepth 100000 in
theorem mayB_vc (L : List Br) :
    ((∃ (a : Nat), (a ≤ L.length ∧ (List.range a).all (okB L) = true) ∧ True ∧ ((True ∧ L.length = L.length ∧ True ∧ ∀ (i : Nat), i < L.length → (L.getD i br0).key = (L.getD i br0).key ∧ (L.getD i br0).page = (L.getD i br0).page ∧ True) ∧ (0 : Int) = (↑a : Int) ∧ (True ∧ L.length = L.length ∧ True ∧ ∀ (i : Nat), i < L.length → (L.getD i br0).key = (L.getD i br0).key ∧ (L.getD i br0).page = (L.getD i br0).page ∧ True) ∧ (↑L.length : Int) = (↑L.length : Int)) ∧ True) ∧ ∀ (a : Nat), a ≤ L.length ∧ (List.range a).all (okB L) = true → (decide ((↑a : Int) < (↑L.length : Int)) = true → ((0 : Int) ≤ (↑a : Int) ∧ (↑a : Int) < (↑L.length : Int)) ∧ (decide ((24 : Int) < (↑(L.getD (↑a : Int).toNat br0).key.length : Int)) = true → false = (List.range L.length).all (okB L)) ∧ (decide ((24 : Int) < (↑(L.getD (↑a : Int).toNat br0).key.length : Int)) = false → (decide ((L.getD (↑a : Int).toNat br0).page < (2 : Int)) = true → false = (List.range L.length).all (okB L)) ∧ (decide ((L.getD (↑a : Int).toNat br0).page < (2 : Int)) = false → (decide ((1024 : Int) ≤ (L.getD (↑a : Int).toNat br0).page) = true → false = (List.range L.length).all (okB L)) ∧ (decide ((1024 : Int) ≤ (L.getD (↑a : Int).toNat br0).page) = false → (decide ((0 : Int) < (↑a : Int)) = true → ((0 : Int) ≤ IntKind.i64.wrap ((↑a : Int) - (1 : Int)) ∧ IntKind.i64.wrap ((↑a : Int) - (1 : Int)) < (↑L.length : Int)) ∧
      ((!Op.bytesLess (L.getD (IntKind.i64.wrap ((↑a : Int) - (1 : Int))).toNat br0).key (L.getD (↑a : Int).toNat br0).key) = true → false = (List.range L.length).all (okB L)) ∧ ((!Op.bytesLess (L.getD (IntKind.i64.wrap ((↑a : Int) - (1 : Int))).toNat br0).key (L.getD (↑a : Int).toNat br0).key) = false → ∃ (a' : Nat), (a' ≤ L.length ∧ (List.range a').all (okB L) = true) ∧ L.length - a' < L.length - a ∧ True ∧ ((True ∧ L.length = L.length ∧ True ∧ ∀ (i : Nat), i < L.length → (L.getD i br0).key = (L.getD i br0).key ∧ (L.getD i br0).page = (L.getD i br0).page ∧ True) ∧ IntKind.i64.wrap ((↑a : Int) + (1 : Int)) = (↑a' : Int) ∧ (True ∧ L.length = L.length ∧ True ∧ ∀ (i : Nat), i < L.length → (L.getD i br0).key = (L.getD i br0).key ∧ (L.getD i br0).page = (L.getD i br0).page ∧ True) ∧ (↑L.length : Int) = (↑L.length : Int)) ∧ True)) ∧ (decide ((0 : Int) < (↑a : Int)) = false → ∃ (a' : Nat), (a' ≤ L.length ∧ (List.range a').all (okB L) = true) ∧ L.length - a' < L.length - a ∧ True ∧ ((True ∧ L.length = L.length ∧ True ∧ ∀ (i : Nat), i < L.length → (L.getD i br0).key = (L.getD i br0).key ∧ (L.getD i br0).page = (L.getD i br0).page ∧ True) ∧ IntKind.i64.wrap ((↑a : Int) + (1 : Int)) = (↑a' : Int) ∧ (True ∧ L.length = L.length ∧ True ∧ ∀ (i : Nat), i < L.length → (L.getD i br0).key = (L.getD i br0).key ∧ (L.getD i br0).page = (L.getD i br0).page ∧ True) ∧ (↑L.length : Int) = (↑L.length : Int)) ∧ True))))) ∧ (decide ((↑a : Int) < (↑L.length : Int)) = false →
      true = (List.range L.length).all (okB L))) →
    vcF Try.prog St.none (specs es_mayB) [] (({ loops := loopsAt [(2, { α := Nat, inv := fun i fm st => ({ fm with tm := fm.tm.set 7 (some (.si .i64 (i : Int))) }, st), pre := fun i => i ≤ L.length ∧ (List.range i).all (okB L) = true, mu := fun i => L.length - i })] } : Ann)) Try.f14 [lB L] (.sb ((List.range L.length).all (okB L))) := fun h => Eq.mpr (by kernel_rfl) h
set_option maxRecDepth 100000 in
theorem mayB_ct (L : List Br) (hL : L.length ≤ 4000000000000) : Ct Try.prog St.none 14 [lB L] (.sb ((List.range L.length).all (okB L))) := Ct.of_vcF (specs_ok es_mayB_ok) Try.func14 (by kernel_rfl) (mayB_vc L (by
  simp only [true_and, and_true, eq_self, implies_true, and_self, Int.toNat_natCast]
  refine ⟨⟨0, ⟨Nat.zero_le _, rfl⟩, rfl⟩, fun a ha => ?_⟩
  obtain ⟨ha, hall⟩ := ha
  have ha : a ≤ L.length := ha
  by_cases h : a < L.length
  · have hi := Int.ofNat_lt.2 h
    have hw := wr1 h hL
    have w1 : 0 < a → IntKind.i64.wrap ((a : Int) - 1) = ((a - 1 : Nat) : Int) := fun h0 => by
      rw [wrap_i64 (by unfold I64; omega)]; omega
    have no : okB L a = false → (List.range L.length).all (okB L) = false := fun hf => all_false h hf
    have yes : okB L a = true → ∃ a', (a' ≤ L.length ∧ (List.range a').all (okB L) = true) ∧ L.length - a' < L.length - a ∧ IntKind.i64.wrap ((a : Int) + 1) = ((a' : Nat) : Int) := fun hf =>
      ⟨a + 1, ⟨h, by rw [all_succ, hall, hf]; rfl⟩, by omega, hw⟩
    refine ⟨fun _ => ⟨⟨nn a, hi⟩, fun c => (no ?_).symm, fun c1 => ⟨fun c => (no ?_).symm, fun c2 => ⟨fun c => (no ?_).symm, fun c3 => ⟨fun h0 => ?_, fun h0 => yes ?_⟩⟩⟩⟩, fun c => absurd h (by have := of_decide_eq_false c; omega)⟩
    · have e : decide (((L.getD a br0).key.length : Int) ≤ 24) = false := decide_eq_false (by have := of_decide_eq_true c; omega)
      simp only [okB, e, Bool.false_and]
    · have e : decide (2 ≤ (L.getD a br0).page) = false := decide_eq_false (by have := of_decide_eq_true c; omega)
      simp only [okB, e, Bool.false_and, Bool.and_false]
    · have e : decide ((L.getD a br0).page < 1024) = false := decide_eq_false (by have := of_decide_eq_true c; omega)
      simp only [okB, e, Bool.false_and, Bool.and_false]
    · have h0 : 0 < a := by have := of_decide_eq_true h0; omega
      rw [w1 h0]; simp only [Int.toNat_natCast]
      refine ⟨⟨nn _, Int.ofNat_lt.2 (by omega)⟩, fun c => (no ?_).symm, fun c => yes ?_⟩
      · have e : decide (a = 0) = false := decide_eq_false (by omega)
        have e2 : Op.bytesLess (L.getD (a - 1) br0).key (L.getD a br0).key = false := by simpa using c
        simp only [okB, e, e2, Bool.or_false, Bool.and_false]
      · have e2 : Op.bytesLess (L.getD (a - 1) br0).key (L.getD a br0).key = true := by simpa using c
        have e3 : decide (((L.getD a br0).key.length : Int) ≤ 24) = true := decide_eq_true (by have := of_decide_eq_false c1; omega)
        have e4 : decide (2 ≤ (L.getD a br0).page) = true := decide_eq_true (by have := of_decide_eq_false c2; omega)
        have e5 : decide ((L.getD a br0).page < 1024) = true := decide_eq_true (by have := of_decide_eq_false c3; omega)
        simp only [okB, e2, e3, e4, e5, Bool.or_true, Bool.and_true]
    · have e2 : decide (a = 0) = true := decide_eq_true (by have := of_decide_eq_false h0; omega)
      have e3 : decide (((L.getD a br0).key.length : Int) ≤ 24) = true := decide_eq_true (by have := of_decide_eq_false c1; omega)
      have e4 : decide (2 ≤ (L.getD a br0).page) = true := decide_eq_true (by have := of_decide_eq_false c2; omega)
      have e5 : decide ((L.getD a br0).page < 1024) = true := decide_eq_true (by have := of_decide_eq_false c3; omega)
      simp only [okB, e2, e3, e4, e5, Bool.true_or, Bool.and_true]
  · have : a = L.length := by omega
    subst this
    simp [hall]))
noncomputable def e_mayB : Ent := entC1 14 (tL 2 decBr Br.v br0) (fun L => L.length ≤ 4000000000000) (fun L => .sb ((List.range L.length).all (okB L)))
theorem mayB_ok : e_mayB.ok Try.prog St.none := entC1_ok fun L h => mayB_ct L h
def mayN (x : Nd) : Bool := if x.leaf then decide (x.br.length = 0) && (List.range x.en.length).all (okE x.en) else decide (x.en.length = 0) && (List.range x.br.length).all (okB x.br)
noncomputable def es_may : List Ent := [e_mayE, e_mayB]
theorem es_may_ok : EntsOk Try.prog St.none es_may := ⟨mayE_ok, mayB_ok, trivial⟩
set_option maxRecDepth 100000 in
theorem may_vc (x : Nd) :
    ((x.leaf = true → (decide ((↑x.br.length : Int) = (0 : Int)) = true → ((∀ (k : Nat), k < x.en.length → (x.en.getD k en0).key = (decEn (x.en.getD k en0).v).key ∧ (x.en.getD k en0).val = (decEn (x.en.getD k en0).v).val ∧ True) ∧ (List.map (fun (k : Nat) => decEn (x.en.getD k en0).v) (List.range x.en.length)).length ≤ (4000000000000 : Nat)) ∧ (List.range (List.map (fun (k : Nat) => decEn (x.en.getD k en0).v) (List.range x.en.length)).length).all (okE (List.map (fun (k : Nat) => decEn (x.en.getD k en0).v) (List.range x.en.length))) = mayN x) ∧ (decide ((↑x.br.length : Int) = (0 : Int)) = false → false = mayN x)) ∧ (x.leaf = false → (decide ((↑x.en.length : Int) = (0 : Int)) = true → ((∀ (k : Nat), k < x.br.length → (x.br.getD k br0).key = (decBr (x.br.getD k br0).v).key ∧ (x.br.getD k br0).page = (decBr (x.br.getD k br0).v).page ∧ True) ∧ (List.map (fun (k : Nat) => decBr (x.br.getD k br0).v) (List.range x.br.length)).length ≤ (4000000000000 : Nat)) ∧ (List.range (List.map (fun (k : Nat) => decBr (x.br.getD k br0).v) (List.range x.br.length)).length).all (okB (List.map (fun (k : Nat) => decBr (x.br.getD k br0).v) (List.range x.br.length))) = mayN x) ∧ (decide ((↑x.en.length : Int) = (0 : Int)) = false → false = mayN x))) →
    vcF Try.prog St.none (specs es_may) [] (noAnn) Try.f7 [x.v] (.sb (mayN x)) := fun h => Eq.mpr (by kernel_rfl) h
set_option maxRecDepth 100000 in
theorem may_ct (x : Nd) (h1 : x.en.length ≤ 4000000000000) (h2 : x.br.length ≤ 4000000000000) : Ct Try.prog St.none 7 [x.v] (.sb (mayN x)) := Ct.of_vcF (specs_ok es_may_ok) Try.func7 (by kernel_rfl) (may_vc x (by
  simp only [decEn_v, decBr_v, map_getD, true_and, and_true, eq_self, implies_true, and_self, Int.toNat_natCast]
  refine ⟨fun l => ⟨fun c => ⟨h1, ?_⟩, fun c => ?_⟩, fun l => ⟨fun c => ⟨h2, ?_⟩, fun c => ?_⟩⟩
  · have e : decide (x.br.length = 0) = true := decide_eq_true (by have := of_decide_eq_true c; omega)
    rw [mayN, if_pos l, e]; rfl
  · have e : decide (x.br.length = 0) = false := decide_eq_false (by have := of_decide_eq_false c; omega)
    rw [mayN, if_pos l, e]; rfl
  · have e : decide (x.en.length = 0) = true := decide_eq_true (by have := of_decide_eq_true c; omega)
    rw [mayN, if_neg (by rw [l]; decide), e]; rfl
  · have e : decide (x.en.length = 0) = false := decide_eq_false (by have := of_decide_eq_false c; omega)
    rw [mayN, if_neg (by rw [l]; decide), e]; rfl))
noncomputable def e_may : Ent := entC1 7 (tD decNd Nd.v) (fun x => x.en.length ≤ 4000000000000 ∧ x.br.length ≤ 4000000000000) (fun x => .sb (mayN x))
theorem may_ok : e_may.ok Try.prog St.none := entC1_ok fun x h => may_ct x h.1 h.2
theorem bl_irrefl : ∀ a : List UInt8, Op.bytesLess a a = false
  | [] => rfl
  | x :: a => by simp [Op.bytesLess, bl_irrefl a]
theorem bl_tri : ∀ a b : List UInt8, (Op.bytesLess a b = true ∧ Op.bytesLess b a = false ∧ a ≠ b) ∨ (Op.bytesLess a b = false ∧ Op.bytesLess b a = true ∧ a ≠ b) ∨ (Op.bytesLess a b = false ∧ Op.bytesLess b a = false ∧ a = b)
  | [], [] => by simp [Op.bytesLess]
  | [], y :: b => by simp [Op.bytesLess]
  | x :: a, [] => by simp [Op.bytesLess]
  | x :: a, y :: b => by
    have ih := bl_tri a b
    by_cases h : x < y
    · have h2 : ¬ y < x := fun h' => by rw [UInt8.lt_iff_toNat_lt] at h h'; omega
      have h3 : ¬ y = x := fun h' => by subst h'; rw [UInt8.lt_iff_toNat_lt] at h; omega
      have h4 : ¬ x = y := fun e => h3 e.symm
      left; simp [Op.bytesLess, h, h2, h3, h4]
    · by_cases h2 : y < x
      · have h3 : ¬ y = x := fun h' => by subst h'; rw [UInt8.lt_iff_toNat_lt] at h2; omega
        have h4 : ¬ x = y := fun e => h3 e.symm
        right; left; simp [Op.bytesLess, h, h2, h3, h4]
      · have h3 : x = y := by rw [UInt8.lt_iff_toNat_lt] at h h2; apply UInt8.toNat_inj.1; omega
        subst h3
        simpa [Op.bytesLess, h] using ih
theorem bl_trans : ∀ a b c : List UInt8, Op.bytesLess a b = true → Op.bytesLess b c = true → Op.bytesLess a c = true
  | _, [], _, h, _ => by simp [Op.bytesLess] at h
  | _, _ :: _, [], _, h => by simp [Op.bytesLess] at h
  | [], _ :: _, _ :: _, _, _ => rfl
  | x :: a, y :: b, z :: c, h1, h2 => by
    simp only [Op.bytesLess, Bool.or_eq_true, Bool.and_eq_true, decide_eq_true_eq, beq_iff_eq] at h1 h2 ⊢
    rcases h1 with h1 | ⟨rfl, h1⟩
    · rcases h2 with h2 | ⟨rfl, h2⟩
      · left; rw [UInt8.lt_iff_toNat_lt] at *; omega
      · left; exact h1
    · rcases h2 with h2 | ⟨rfl, h2⟩
      · left; exact h2
      · right; exact ⟨rfl, bl_trans a b c h1 h2⟩
/-- is a branch's key greater? -/
def gtB (L : List Br) (key : List UInt8) (i : Nat) : Bool := !(Op.bytesLess (L.getD i br0).key key || decide ((L.getD i br0).key = key))
/-- a closure that has caught two variables -/
def tF2 {α β : Type} (g : FuncId) (C : TyC α) (D : TyC β) : TyC (α × β) where
  to v := match v with
    | .func fn a b => match fn, a, b with
      | .func g', [], [c, d] => match Nat.beq g' g, C.to c, D.to d with
        | true, some (p, x), some (q, y) => some (some (cj p (cj q True)), (x, y))
        | _, _, _ => none
      | _, _, _ => none
    | _ => none
  of a := .func (.func g) [] [C.of a.1, D.of a.2]
  ok v p a h hp fz z r := by
    split at h
    · split at h
      · split at h
        · rename_i c d _ p1 x q1 y hg h1 h2
          cases h
          obtain ⟨k1, k2⟩ := cj_spec (hp _ rfl)
          obtain ⟨k3, _⟩ := cj_spec k2
          obtain rfl := Nat.eq_of_beq_eq_true hg
          simp only [RV, RVs] at r ⊢
          obtain ⟨x', y', rfl, e1, u, l, e2, r1, u2, l2, e3, r2, e4⟩ := r
          exact ⟨x', y', rfl, e1, u, l, e2, C.ok _ _ _ h1 k1 _ _ r1, u2, l2, e3, D.ok _ _ _ h2 k3 _ _ r2, e4⟩
        · cases h
      · cases h
    · cases h
def oS (l : List UInt8) : V := .ss l
noncomputable def es_place1 : List Ent := []
theorem es_place1_ok : EntsOk Try.prog St.none es_place1 := trivial
set_option maxRecDepth 100000 in
theorem place1_vc (L : List Br) (key : List UInt8) (i : Int) :
    (((0 : Int) ≤ i ∧ i < (↑L.length : Int)) ∧ (!(Op.bytesLess (L.getD i.toNat br0).key key || decide ((L.getD i.toNat br0).key = key))) = gtB L key i.toNat) →
    vcF Try.prog St.none (specs es_place1) [] (noAnn) Try.f16 [.si .i64 i, .rp 1 1 (fun _ => lB L) 0 0, .rp 1 1 (fun _ => oS key) 0 0] (.sb (gtB L key i.toNat)) := fun h => Eq.mpr (by kernel_rfl) h
set_option maxRecDepth 100000 in
theorem place1_ct (L : List Br) (key : List UInt8) (i : Int) (h0 : 0 ≤ i) (hi : i < L.length) : Ct Try.prog St.none 16 [.si .i64 i, .rp 1 1 (fun _ => lB L) 0 0, .rp 1 1 (fun _ => oS key) 0 0] (.sb (gtB L key i.toNat)) := Ct.of_vcF (specs_ok es_place1_ok) Try.func16 (by kernel_rfl) (place1_vc L key i (by
  simp [gtB, h0, hi]))
noncomputable def e_place1 : Ent := entC3 16 (tI .i64).c (tP 1 decLB lB) (tP 1 sS oS) (fun i L _ => 0 ≤ i ∧ i < L.length) (fun i L key => .sb (gtB L key i.toNat))
theorem place1_ok : e_place1.ok Try.prog St.none := entC3_ok fun i L key h => place1_ct L key i h.1 h.2
def bsF (f : Nat → Bool) (low high : Nat) : Nat :=
  if h : low < high then (if f (low + (high - low) / 2) then bsF f low (low + (high - low) / 2) else bsF f (low + (high - low) / 2 + 1) high) else low
termination_by high - low
noncomputable def es_first : List Ent := [e_place1]
theorem es_first_ok : EntsOk Try.prog St.none es_first := ⟨place1_ok, trivial⟩
set_option maxRecDepth 100000 in
theorem first_vc (L : List Br) (key : List UInt8) :
    ((∃ (a : Nat × Nat), (a.fst ≤ a.snd ∧ a.snd ≤ L.length ∧ bsF (gtB L key) a.fst a.snd = bsF (gtB L key) (0 : Nat) L.length) ∧ True ∧ ((True ∧ ((1 : Nat) = (1 : Nat) ∧ (1 : Nat) = (1 : Nat) ∧ (0 : Nat) = (0 : Nat) ∧ (0 : Nat) = (0 : Nat) ∧ ∀ (i : Nat), i < (1 : Nat) → True ∧ L.length = L.length ∧ True ∧ ∀ (i : Nat), i < L.length → (L.getD i br0).key = (L.getD i br0).key ∧ (L.getD i br0).page = (L.getD i br0).page ∧ True) ∧ ((1 : Nat) = (1 : Nat) ∧ (1 : Nat) = (1 : Nat) ∧ (0 : Nat) = (0 : Nat) ∧ (0 : Nat) = (0 : Nat) ∧ ∀ (i : Nat), i < (1 : Nat) → key = key) ∧ True) ∧ (0 : Int) = (↑a.fst : Int) ∧ (0 : Int) = (0 : Int) ∧ (↑L.length : Int) = (↑a.snd : Int)) ∧ True) ∧ ∀ (a : Nat × Nat), a.fst ≤ a.snd ∧ a.snd ≤ L.length ∧ bsF (gtB L key) a.fst a.snd = bsF (gtB L key) (0 : Nat) L.length → (decide ((↑a.fst : Int) < (↑a.snd : Int)) = true → (2 : Int) ≠ (0 : Int) ∧ ((True ∧ L.length = (decLB (lB L)).length ∧ True ∧ ∀ (i : Nat), i < (decLB (lB L)).length → (L.getD i br0).key = ((decLB (lB L)).getD i br0).key ∧ (L.getD i br0).page = ((decLB (lB L)).getD i br0).page ∧ True) ∧ key = sS (oS key) ∧ (0 : Int) ≤ IntKind.i64.wrap ((↑a.fst : Int) + IntKind.i64.wrap ((IntKind.i64.wrap ((↑a.snd : Int) - (↑a.fst : Int))).tdiv (2 : Int))) ∧ IntKind.i64.wrap ((↑a.fst : Int) + IntKind.i64.wrap ((IntKind.i64.wrap ((↑a.snd : Int) - (↑a.fst : Int))).tdiv (2 : Int))) < (↑(decLB (lB L)).length : Int)) ∧
      (gtB (decLB (lB L)) (sS (oS key)) (IntKind.i64.wrap ((↑a.fst : Int) + IntKind.i64.wrap ((IntKind.i64.wrap ((↑a.snd : Int) - (↑a.fst : Int))).tdiv (2 : Int)))).toNat = true → ∃ (a' : Nat × Nat), (a'.fst ≤ a'.snd ∧ a'.snd ≤ L.length ∧ bsF (gtB L key) a'.fst a'.snd = bsF (gtB L key) (0 : Nat) L.length) ∧ a'.snd - a'.fst < a.snd - a.fst ∧ True ∧ ((True ∧ ((1 : Nat) = (1 : Nat) ∧ (1 : Nat) = (1 : Nat) ∧ (0 : Nat) = (0 : Nat) ∧ (0 : Nat) = (0 : Nat) ∧ ∀ (i : Nat), i < (1 : Nat) → True ∧ L.length = L.length ∧ True ∧ ∀ (i : Nat), i < L.length → (L.getD i br0).key = (L.getD i br0).key ∧ (L.getD i br0).page = (L.getD i br0).page ∧ True) ∧ ((1 : Nat) = (1 : Nat) ∧ (1 : Nat) = (1 : Nat) ∧ (0 : Nat) = (0 : Nat) ∧ (0 : Nat) = (0 : Nat) ∧ ∀ (i : Nat), i < (1 : Nat) → key = key) ∧ True) ∧ (↑a.fst : Int) = (↑a'.fst : Int) ∧ (0 : Int) = (0 : Int) ∧ IntKind.i64.wrap ((↑a.fst : Int) + IntKind.i64.wrap ((IntKind.i64.wrap ((↑a.snd : Int) - (↑a.fst : Int))).tdiv (2 : Int))) = (↑a'.snd : Int)) ∧ True) ∧ (gtB (decLB (lB L)) (sS (oS key)) (IntKind.i64.wrap ((↑a.fst : Int) + IntKind.i64.wrap ((IntKind.i64.wrap ((↑a.snd : Int) - (↑a.fst : Int))).tdiv (2 : Int)))).toNat = false → ∃ (a' : Nat × Nat), (a'.fst ≤ a'.snd ∧ a'.snd ≤ L.length ∧ bsF (gtB L key) a'.fst a'.snd = bsF (gtB L key) (0 : Nat) L.length) ∧ a'.snd - a'.fst < a.snd - a.fst ∧ True ∧ ((True ∧ ((1 : Nat) = (1 : Nat) ∧ (1 : Nat) = (1 : Nat) ∧ (0 : Nat) = (0 : Nat) ∧ (0 : Nat) = (0 : Nat) ∧ ∀ (i : Nat), i < (1 : Nat) → True ∧
      L.length = L.length ∧ True ∧ ∀ (i : Nat), i < L.length → (L.getD i br0).key = (L.getD i br0).key ∧ (L.getD i br0).page = (L.getD i br0).page ∧ True) ∧ ((1 : Nat) = (1 : Nat) ∧ (1 : Nat) = (1 : Nat) ∧ (0 : Nat) = (0 : Nat) ∧ (0 : Nat) = (0 : Nat) ∧ ∀ (i : Nat), i < (1 : Nat) → key = key) ∧ True) ∧ IntKind.i64.wrap (IntKind.i64.wrap ((↑a.fst : Int) + IntKind.i64.wrap ((IntKind.i64.wrap ((↑a.snd : Int) - (↑a.fst : Int))).tdiv (2 : Int))) + (1 : Int)) = (↑a'.fst : Int) ∧ (0 : Int) = (0 : Int) ∧ (↑a.snd : Int) = (↑a'.snd : Int)) ∧ True)) ∧ (decide ((↑a.fst : Int) < (↑a.snd : Int)) = false → (↑a.fst : Int) = (↑(bsF (gtB L key) (0 : Nat) L.length) : Int))) →
    vcF Try.prog St.none (specs es_first) [] (({ loops := loopsAt [(2, { α := Nat × Nat, inv := fun a fm st => ({ fm with tm := (fm.tm.set 5 (some (.si .i64 (a.1 : Int)))).set 6 (some (.si .i64 (a.2 : Int))) }, st), pre := fun a => a.1 ≤ a.2 ∧ a.2 ≤ L.length ∧ bsF (gtB L key) a.1 a.2 = bsF (gtB L key) 0 L.length, mu := fun a => a.2 - a.1 })] } : Ann)) Try.f15 [.si .i64 (L.length : Int), .func (.func 16) [] [.rp 1 1 (fun _ => lB L) 0 0, .rp 1 1 (fun _ => oS key) 0 0]] (.si .i64 (bsF (gtB L key) 0 L.length : Int)) := fun h => Eq.mpr (by kernel_rfl) h
set_option maxRecDepth 100000 in
theorem first_ct (L : List Br) (key : List UInt8) (hL : L.length ≤ 4000000000000) : Ct Try.prog St.none 15 [.si .i64 (L.length : Int), .func (.func 16) [] [.rp 1 1 (fun _ => lB L) 0 0, .rp 1 1 (fun _ => oS key) 0 0]] (.si .i64 (bsF (gtB L key) 0 L.length : Int)) := Ct.of_vcF (specs_ok es_first_ok) Try.func15 (by kernel_rfl) (first_vc L key (by
  have dB : decLB (lB L) = L := decLB_v L
  have dS : sS (oS key) = key := rfl
  simp only [true_and, and_true, eq_self, implies_true, and_self, Int.toNat_natCast, dB, dS]
  refine ⟨⟨(0, L.length), ⟨Nat.zero_le _, Nat.le_refl _, rfl⟩, rfl, rfl⟩, fun a ha => ?_⟩
  obtain ⟨lo, hi⟩ := a
  obtain ⟨hle, hn, hb⟩ := ha
  dsimp only at hle hn hb ⊢
  by_cases h : lo < hi
  · have hm : lo + (hi - lo) / 2 < hi := by omega
    have e1 : IntKind.i64.wrap ((hi : Int) - lo) = ((hi - lo : Nat) : Int) := by rw [wrap_i64 (by unfold I64; omega)]; omega
    have e2 : ((hi - lo : Nat) : Int).tdiv 2 = (((hi - lo) / 2 : Nat) : Int) := by rw [Int.tdiv_eq_ediv_of_nonneg (nn _)]; rfl
    have e3 : IntKind.i64.wrap ((((hi - lo) / 2 : Nat)) : Int) = (((hi - lo) / 2 : Nat) : Int) := wrap_i64 (by unfold I64; omega)
    have e4 : IntKind.i64.wrap ((lo : Int) + (((hi - lo) / 2 : Nat) : Int)) = ((lo + (hi - lo) / 2 : Nat) : Int) := by rw [wrap_i64 (by unfold I64; omega)]; omega
    have e5 := wr1 (Nat.lt_of_lt_of_le hm hn) hL
    have hb' : bsF (gtB L key) lo hi = if gtB L key (lo + (hi - lo) / 2) then bsF (gtB L key) lo (lo + (hi - lo) / 2) else bsF (gtB L key) (lo + (hi - lo) / 2 + 1) hi := by rw [bsF, dif_pos h]
    rw [e1, e2, e3, e4, e5]
    simp only [Int.toNat_natCast]
    refine ⟨fun _ => ⟨by decide, ⟨nn _, Int.ofNat_lt.2 (by omega)⟩, fun c => ⟨(lo, lo + (hi - lo) / 2), ⟨by dsimp only; omega, by dsimp only; omega, ?_⟩, by dsimp only; omega, rfl, rfl⟩, fun c => ⟨(lo + (hi - lo) / 2 + 1, hi), ⟨by dsimp only; omega, by dsimp only; omega, ?_⟩, by dsimp only; omega, rfl, rfl⟩⟩, fun c => absurd h (by have := of_decide_eq_false c; omega)⟩
    · rw [c, if_pos rfl] at hb'; exact hb'.symm.trans hb
    · rw [c, if_neg (by decide)] at hb'; exact hb'.symm.trans hb
  · refine ⟨fun c => absurd (of_decide_eq_true c) (by omega), fun _ => ?_⟩
    rw [← hb, bsF, dif_neg h]))
noncomputable def e_first : Ent := entC2 15 (tI .i64).c (tF2 16 (tP 1 decLB lB) (tP 1 sS oS)) (fun n a => n = (a.1.length : Int) ∧ a.1.length ≤ 4000000000000) (fun _ a => .si .i64 (bsF (gtB a.1 a.2) 0 a.1.length : Int))
theorem first_ok : e_first.ok Try.prog St.none := entC2_ok fun n a h => by obtain ⟨rfl, h⟩ := h; exact first_ct a.1 a.2 h
theorem bsF_le (f : Nat → Bool) : ∀ (m low high : Nat), high - low = m → low ≤ high → low ≤ bsF f low high ∧ bsF f low high ≤ high := by
  intro m
  induction m using Nat.strongRecOn with
  | _ m ih =>
    intro low high hm hle
    unfold bsF
    by_cases h : low < high
    · rw [dif_pos h]
      split
      · have := ih _ (by omega) low (low + (high - low) / 2) rfl (by omega)
        omega
      · have := ih _ (by omega) (low + (high - low) / 2 + 1) high rfl (by omega)
        omega
    · rw [dif_neg h]; omega
theorem bsF_spec {f : Nat → Bool} {n : Nat} (mono : ∀ i j, i ≤ j → j < n → f i = true → f j = true) : ∀ (m low high : Nat), high - low = m → low ≤ high → high ≤ n →
    (∀ i, i < low → f i = false) → (∀ i, high ≤ i → i < n → f i = true) → (∀ i, i < bsF f low high → f i = false) ∧ (∀ i, bsF f low high ≤ i → i < n → f i = true) := by
  intro m
  induction m using Nat.strongRecOn with
  | _ m ih =>
    intro low high hm hle hn h1 h2
    unfold bsF
    by_cases h : low < high
    · rw [dif_pos h]
      have hmid : low + (high - low) / 2 < high := by omega
      split
      · rename_i hf
        exact ih _ (by omega) low (low + (high - low) / 2) rfl (by omega) (by omega) h1 (fun i hi hin => mono _ i hi hin hf)
      · rename_i hf
        have hf : f (low + (high - low) / 2) = false := by simpa using hf
        refine ih _ (by omega) (low + (high - low) / 2 + 1) high rfl (by omega) hn (fun i hi => ?_) h2
        cases hc : f i with
        | false => rfl
        | true => rw [mono i (low + (high - low) / 2) (by omega) (by omega) hc] at hf; cases hf
    · rw [dif_neg h]
      exact ⟨h1, fun i hi hin => h2 i (by omega) hin⟩
structure smB (L : List Br) : Prop where
  le : L.length ≤ 4000000000000
def plc (L : List Br) (key : List UInt8) : Int := max ((bsF (gtB L key) 0 L.length : Int) - 1) 0
noncomputable def es_place : List Ent := [e_first]
theorem es_place_ok : EntsOk Try.prog St.none es_place := ⟨first_ok, trivial⟩
set_option maxRecDepth 100000 in
theorem place_vc (L : List Br) (key : List UInt8) :
    ((((True ∧ L.length = (decLB (mkEl [V.ro false L.length (2 : Nat) fun (k : Nat) => (L.getD k br0).v])).length ∧ True ∧ ∀ (i : Nat), i < (decLB (mkEl [V.ro false L.length (2 : Nat) fun (k : Nat) => (L.getD k br0).v])).length → (L.getD i br0).key = ((decLB (mkEl [V.ro false L.length (2 : Nat) fun (k : Nat) => (L.getD k br0).v])).getD i br0).key ∧ (L.getD i br0).page = ((decLB (mkEl [V.ro false L.length (2 : Nat) fun (k : Nat) => (L.getD k br0).v])).getD i br0).page ∧ True) ∧ key = sS (mkEl [V.ss key]) ∧ True) ∧ (↑L.length : Int) = (↑(decLB (mkEl [V.ro false L.length (2 : Nat) fun (k : Nat) => (L.getD k br0).v]), sS (mkEl [V.ss key])).fst.length : Int) ∧ (decLB (mkEl [V.ro false L.length (2 : Nat) fun (k : Nat) => (L.getD k br0).v]), sS (mkEl [V.ss key])).fst.length ≤ (4000000000000 : Nat)) ∧ max (IntKind.i64.wrap ((↑(bsF (gtB (decLB (mkEl [V.ro false L.length (2 : Nat) fun (k : Nat) => (L.getD k br0).v]), sS (mkEl [V.ss key])).fst (decLB (mkEl [V.ro false L.length (2 : Nat) fun (k : Nat) => (L.getD k br0).v]), sS (mkEl [V.ss key])).snd) (0 : Nat) (decLB (mkEl [V.ro false L.length (2 : Nat) fun (k : Nat) => (L.getD k br0).v]), sS (mkEl [V.ss key])).fst.length) : Int) - (1 : Int))) (0 : Int) = plc L key) →
    vcF Try.prog St.none (specs es_place) [] (noAnn) Try.f8 [lB L, .ss key] (.si .i64 (plc L key)) := fun h => Eq.mpr (by kernel_rfl) h
set_option maxRecDepth 100000 in
theorem place_ct (L : List Br) (key : List UInt8) (hL : L.length ≤ 4000000000000) : Ct Try.prog St.none 8 [lB L, .ss key] (.si .i64 (plc L key)) := Ct.of_vcF (specs_ok es_place_ok) Try.func8 (by kernel_rfl) (place_vc L key (by
  have dB : decLB (lB L) = L := decLB_v L
  have dS : sS (oS key) = key := rfl
  have hb := bsF_le (gtB L key) _ 0 L.length rfl (Nat.zero_le _)
  have hw : IntKind.i64.wrap ((bsF (gtB L key) 0 L.length : Int) - 1) = (bsF (gtB L key) 0 L.length : Int) - 1 := wrap_i64 (by unfold I64; omega)
  simp only [true_and, and_true, eq_self, implies_true, and_self, Int.toNat_natCast, dB, dS, mkEl, decLB_ro, sS, V.asS, hw]
  exact ⟨hL, rfl⟩))
noncomputable def e_place : Ent := entC2 8 (tL 2 decBr Br.v br0) tS.c (fun L _ => smB L) (fun L key => .si .i64 (plc L key))
theorem place_ok : e_place.ok Try.prog St.none := entC2_ok fun L key h => place_ct L key h.le
theorem plc_nil (key : List UInt8) : plc [] key = 0 := by
  unfold plc
  rw [show bsF (gtB [] key) 0 ([] : List Br).length = 0 from by unfold bsF; rw [dif_neg (by decide)]]
  rfl
theorem gt_bl (L : List Br) (key : List UInt8) (i : Nat) : gtB L key i = Op.bytesLess key (L.getD i br0).key := by
  unfold gtB
  generalize (L.getD i br0).key = k
  rcases bl_tri k key with ⟨h1, h2, h3⟩ | ⟨h1, h2, h3⟩ | ⟨h1, h2, h3⟩
  · simp [h1, h2, h3]
  · simp [h1, h2, h3]
  · subst h3; simp [h1]
theorem may_rises {x : Nd} (h : mayN x = true) (hz : x.br.length ≠ 0) (i : Nat) (hi : i + 1 < x.br.length) : Op.bytesLess (x.br.getD i br0).key (x.br.getD (i + 1) br0).key = true := by
  unfold mayN at h
  split at h
  · rw [Bool.and_eq_true] at h; exact absurd (of_decide_eq_true h.1) hz
  · rw [Bool.and_eq_true] at h
    have := List.all_eq_true.1 h.2 (i + 1) (List.mem_range.2 hi)
    unfold okB at this
    rw [Bool.and_eq_true, Bool.or_eq_true] at this
    rcases this.2 with k | k
    · exact absurd (of_decide_eq_true k) (by omega)
    · exact k
theorem place_spec {L : List Br} {key : List UInt8} (hz : L.length ≠ 0) (up : ∀ i, i + 1 < L.length → Op.bytesLess (L.getD i br0).key (L.getD (i + 1) br0).key = true) :
    ∃ p : Nat, plc L key = (p : Int) ∧ p < L.length ∧ (0 < p → gtB L key p = false) ∧ (p + 1 < L.length → gtB L key (p + 1) = true) := by
  have mono : ∀ i j, i ≤ j → j < L.length → gtB L key i = true → gtB L key j = true := by
    intro i j
    induction j with
    | zero => intro h _ h2; have : i = 0 := by omega
              subst this; exact h2
    | succ j ih =>
      intro h h1 h2
      by_cases e : i = j + 1
      · subst e; exact h2
      · have := ih (by omega) (by omega) h2
        rw [gt_bl] at this ⊢
        exact bl_trans _ _ _ this (up j h1)
  have hb := bsF_le (gtB L key) _ 0 L.length rfl (Nat.zero_le _)
  have hs := bsF_spec (f := gtB L key) mono _ 0 L.length rfl (Nat.zero_le _) (Nat.le_refl _) (fun i hi => absurd hi (by omega)) (fun i hi hin => absurd hi (by omega))
  refine ⟨bsF (gtB L key) 0 L.length - 1, ?_, by omega, fun h => hs.1 _ (by omega), fun h => hs.2 _ (by omega) h⟩
  unfold plc
  generalize bsF (gtB L key) 0 L.length = b
  omega
def bigE (e : En) : Bool := decide (300 < (e.key.length : Int)) || decide (300 < (e.val.length : Int))
def bigB (e : Br) : Bool := decide (300 < (e.key.length : Int))
def lg06 (x : Nd) : Bool := decide (200 < (x.en.length : Int)) || decide (200 < (x.br.length : Int)) || (List.range x.en.length).any (fun i => bigE (x.en.getD i en0)) || (List.range x.br.length).any (fun i => bigB (x.br.getD i br0))
theorem any_succ (f : Nat → Bool) (a : Nat) : (List.range (a + 1)).any f = ((List.range a).any f || f a) := by
  rw [List.range_succ, List.any_append]; simp
theorem any_true {f : Nat → Bool} {a n : Nat} (h : a < n) (hf : f a = true) : (List.range n).any f = true :=
  List.any_eq_true.2 ⟨a, List.mem_range.2 h, hf⟩
noncomputable def es_large : List Ent := []
theorem es_large_ok : EntsOk Try.prog St.none es_large := trivial
set_option maxRecDepth 100000 in
theorem large_vc (x : Nd) :
    ((decide ((200 : Int) < (↑x.en.length : Int)) = true → true = lg06 x) ∧ (decide ((200 : Int) < (↑x.en.length : Int)) = false → (decide ((200 : Int) < (↑x.br.length : Int)) = true → true = lg06 x) ∧ (decide ((200 : Int) < (↑x.br.length : Int)) = false → (∃ (a : Nat), (a ≤ x.en.length ∧ ((List.range a).any fun (i : Nat) => bigE (x.en.getD i en0)) = false) ∧ True ∧ (True ∧ (0 : Int) = (↑a : Int)) ∧ x.leaf = x.leaf ∧ (True ∧ x.en.length = x.en.length ∧ True ∧ ∀ (i : Nat), i < x.en.length → (x.en.getD i en0).key = (x.en.getD i en0).key ∧ (x.en.getD i en0).val = (x.en.getD i en0).val ∧ True) ∧ True ∧ x.br.length = x.br.length ∧ True ∧ ∀ (i : Nat), i < x.br.length → (x.br.getD i br0).key = (x.br.getD i br0).key ∧ (x.br.getD i br0).page = (x.br.getD i br0).page ∧ True) ∧ ∀ (a : Nat), a ≤ x.en.length ∧ ((List.range a).any fun (i : Nat) => bigE (x.en.getD i en0)) = false → (decide ((↑a : Int) < (↑x.en.length : Int)) = true → ((0 : Int) ≤ (↑a : Int) ∧ (↑a : Int) < (↑x.en.length : Int)) ∧ (decide ((300 : Int) < (↑(x.en.getD (↑a : Int).toNat en0).key.length : Int)) = true → true = lg06 x) ∧ (decide ((300 : Int) < (↑(x.en.getD (↑a : Int).toNat en0).key.length : Int)) = false → ((0 : Int) ≤ (↑a : Int) ∧ (↑a : Int) < (↑x.en.length : Int)) ∧ (decide ((300 : Int) < (↑(x.en.getD (↑a : Int).toNat en0).val.length : Int)) = true → true = lg06 x) ∧ (decide ((300 : Int) < (↑(x.en.getD (↑a : Int).toNat en0).val.length : Int)) = false → ∃ (a' : Nat), (a' ≤ x.en.length ∧
      ((List.range a').any fun (i : Nat) => bigE (x.en.getD i en0)) = false) ∧ x.en.length - a' < x.en.length - a ∧ True ∧ (True ∧ IntKind.i64.wrap ((↑a : Int) + (1 : Int)) = (↑a' : Int)) ∧ x.leaf = x.leaf ∧ (True ∧ x.en.length = x.en.length ∧ True ∧ ∀ (i : Nat), i < x.en.length → (x.en.getD i en0).key = (x.en.getD i en0).key ∧ (x.en.getD i en0).val = (x.en.getD i en0).val ∧ True) ∧ True ∧ x.br.length = x.br.length ∧ True ∧ ∀ (i : Nat), i < x.br.length → (x.br.getD i br0).key = (x.br.getD i br0).key ∧ (x.br.getD i br0).page = (x.br.getD i br0).page ∧ True))) ∧ (decide ((↑a : Int) < (↑x.en.length : Int)) = false → (∃ (a : Nat), (a ≤ x.br.length ∧ ((List.range a).any fun (i : Nat) => bigB (x.br.getD i br0)) = false) ∧ True ∧ (True ∧ (0 : Int) = (↑a : Int)) ∧ x.leaf = x.leaf ∧ (True ∧ x.en.length = x.en.length ∧ True ∧ ∀ (i : Nat), i < x.en.length → (x.en.getD i en0).key = (x.en.getD i en0).key ∧ (x.en.getD i en0).val = (x.en.getD i en0).val ∧ True) ∧ True ∧ x.br.length = x.br.length ∧ True ∧ ∀ (i : Nat), i < x.br.length → (x.br.getD i br0).key = (x.br.getD i br0).key ∧ (x.br.getD i br0).page = (x.br.getD i br0).page ∧ True) ∧ ∀ (a : Nat), a ≤ x.br.length ∧ ((List.range a).any fun (i : Nat) => bigB (x.br.getD i br0)) = false → (decide ((↑a : Int) < (↑x.br.length : Int)) = true → ((0 : Int) ≤ (↑a : Int) ∧ (↑a : Int) < (↑x.br.length : Int)) ∧ (decide ((300 : Int) < (↑(x.br.getD (↑a : Int).toNat br0).key.length : Int)) = true → true = lg06 x) ∧
      (decide ((300 : Int) < (↑(x.br.getD (↑a : Int).toNat br0).key.length : Int)) = false → ∃ (a' : Nat), (a' ≤ x.br.length ∧ ((List.range a').any fun (i : Nat) => bigB (x.br.getD i br0)) = false) ∧ x.br.length - a' < x.br.length - a ∧ True ∧ (True ∧ IntKind.i64.wrap ((↑a : Int) + (1 : Int)) = (↑a' : Int)) ∧ x.leaf = x.leaf ∧ (True ∧ x.en.length = x.en.length ∧ True ∧ ∀ (i : Nat), i < x.en.length → (x.en.getD i en0).key = (x.en.getD i en0).key ∧ (x.en.getD i en0).val = (x.en.getD i en0).val ∧ True) ∧ True ∧ x.br.length = x.br.length ∧ True ∧ ∀ (i : Nat), i < x.br.length → (x.br.getD i br0).key = (x.br.getD i br0).key ∧ (x.br.getD i br0).page = (x.br.getD i br0).page ∧ True)) ∧ (decide ((↑a : Int) < (↑x.br.length : Int)) = false → false = lg06 x))))) →
    vcF Try.prog St.none (specs es_large) [] (({ loops := loopsAt [(4, { α := Nat, inv := fun i fm st => ({ fm with tm := fm.tm.set 3 (some (.si .i64 (i : Int))) }, st), pre := fun i => i ≤ x.en.length ∧ (List.range i).any (fun i => bigE (x.en.getD i en0)) = false, mu := fun i => x.en.length - i }), (9, { α := Nat, inv := fun i fm st => ({ fm with tm := fm.tm.set 4 (some (.si .i64 (i : Int))) }, st), pre := fun i => i ≤ x.br.length ∧ (List.range i).any (fun i => bigB (x.br.getD i br0)) = false, mu := fun i => x.br.length - i })] } : Ann)) Try.f4 [x.v] (.sb (lg06 x)) := fun h => Eq.mpr (by kernel_rfl) h
set_option maxRecDepth 100000 in
theorem large_ct (x : Nd)  : Ct Try.prog St.none 4 [x.v] (.sb (lg06 x)) := Ct.of_vcF (specs_ok es_large_ok) Try.func4 (by kernel_rfl) (large_vc x (by
  simp only [true_and, and_true, eq_self, implies_true, and_self, Int.toNat_natCast]
  refine ⟨fun c => by unfold lg06; simp only [c, Bool.true_or], fun c1 => ⟨fun c => by unfold lg06; simp only [c, Bool.true_or, Bool.or_true], fun c2 => ⟨⟨0, ⟨Nat.zero_le _, rfl⟩, rfl⟩, fun a ha => ⟨fun h => ?_, fun h => ?_⟩⟩⟩⟩
  · obtain ⟨ha, hall⟩ := ha
    have hlt : a < x.en.length := by have := of_decide_eq_true h; omega
    have no : bigE (x.en.getD a en0) = true → true = lg06 x := fun hf => by
      unfold lg06; rw [any_true (f := fun i => bigE (x.en.getD i en0)) hlt hf]; simp only [Bool.true_or, Bool.or_true]
    refine ⟨⟨nn a, Int.ofNat_lt.2 hlt⟩, fun c => no (by unfold bigE; simp only [c, Bool.true_or]), fun c3 => ⟨⟨nn a, Int.ofNat_lt.2 hlt⟩, fun c => no (by unfold bigE; simp only [c, Bool.or_true]), fun c4 => ⟨a + 1, ⟨hlt, ?_⟩, by omega, wr1 hlt (by have := of_decide_eq_false c1; omega)⟩⟩⟩
    rw [any_succ, hall]
    simp only [bigE, c3, c4, Bool.or_false]
  · obtain ⟨ha, hall⟩ := ha
    have ea : a = x.en.length := by have := of_decide_eq_false h; have ha : a ≤ x.en.length := ha; omega
    rw [ea] at hall
    refine ⟨⟨0, ⟨Nat.zero_le _, rfl⟩, rfl⟩, fun b hb => ⟨fun h => ?_, fun h => ?_⟩⟩
    · obtain ⟨hb, hbll⟩ := hb
      have hlt : b < x.br.length := by have := of_decide_eq_true h; omega
      have no : bigB (x.br.getD b br0) = true → true = lg06 x := fun hf => by
        unfold lg06; rw [any_true (f := fun i => bigB (x.br.getD i br0)) hlt hf]; simp only [Bool.true_or, Bool.or_true]
      refine ⟨⟨nn b, Int.ofNat_lt.2 hlt⟩, fun c => no c, fun c3 => ⟨b + 1, ⟨hlt, ?_⟩, by omega, wr1 hlt (by have := of_decide_eq_false c2; omega)⟩⟩
      rw [any_succ, hbll]
      simp only [bigB, c3, Bool.or_false]
    · obtain ⟨hb, hbll⟩ := hb
      have eb : b = x.br.length := by have := of_decide_eq_false h; have hb : b ≤ x.br.length := hb; omega
      rw [eb] at hbll
      unfold lg06
      simp only [c1, c2, hall, hbll, Bool.or_false]))
noncomputable def e_large : Ent := entC1 4 (tD decNd Nd.v) (fun _ => True) (fun x => .sb (lg06 x))
theorem large_ok : e_large.ok Try.prog St.none := entC1_ok fun x _ => large_ct x
theorem awake_ct : Ct Try.prog St.none 5 [] (.sb true) := Ct.of_calls0 Try.func5 (by kernel_rfl) awake.walked
noncomputable def e_awake : Ent := ent0 5 (.sb true)
theorem awake_ok : e_awake.ok Try.prog St.none := ent0_ok awake_ct
noncomputable def es_law : List Ent := [e_large, e_awake, e_given, e_may, e_place]
theorem es_law_ok : EntsOk Try.prog St.none es_law := ⟨large_ok, awake_ok, given_ok, may_ok, place_ok, trivial⟩
set_option maxRecDepth 100000 in
theorem law_vc (x : Nd) (key : List UInt8) :
    (((x.leaf = (decNd (V.agg [V.sb x.leaf, V.ro false x.en.length (2 : Nat) fun (k : Nat) => (x.en.getD k en0).v, V.ro false x.br.length (2 : Nat) fun (k : Nat) => (x.br.getD k br0).v])).leaf ∧ (True ∧ x.en.length = (decNd (V.agg [V.sb x.leaf, V.ro false x.en.length (2 : Nat) fun (k : Nat) => (x.en.getD k en0).v, V.ro false x.br.length (2 : Nat) fun (k : Nat) => (x.br.getD k br0).v])).en.length ∧ True ∧ ∀ (i : Nat), i < (decNd (V.agg [V.sb x.leaf, V.ro false x.en.length (2 : Nat) fun (k : Nat) => (x.en.getD k en0).v, V.ro false x.br.length (2 : Nat) fun (k : Nat) => (x.br.getD k br0).v])).en.length → (x.en.getD i en0).key = ((decNd (V.agg [V.sb x.leaf, V.ro false x.en.length (2 : Nat) fun (k : Nat) => (x.en.getD k en0).v, V.ro false x.br.length (2 : Nat) fun (k : Nat) => (x.br.getD k br0).v])).en.getD i en0).key ∧ (x.en.getD i en0).val = ((decNd (V.agg [V.sb x.leaf, V.ro false x.en.length (2 : Nat) fun (k : Nat) => (x.en.getD k en0).v, V.ro false x.br.length (2 : Nat) fun (k : Nat) => (x.br.getD k br0).v])).en.getD i en0).val ∧ True) ∧ (True ∧ x.br.length = (decNd (V.agg [V.sb x.leaf, V.ro false x.en.length (2 : Nat) fun (k : Nat) => (x.en.getD k en0).v, V.ro false x.br.length (2 : Nat) fun (k : Nat) => (x.br.getD k br0).v])).br.length ∧ True ∧ ∀ (i : Nat), i < (decNd (V.agg [V.sb x.leaf, V.ro false x.en.length (2 : Nat) fun (k : Nat) => (x.en.getD k en0).v, V.ro false x.br.length (2 : Nat) fun (k : Nat) => (x.br.getD k br0).v])).br.length →
      (x.br.getD i br0).key = ((decNd (V.agg [V.sb x.leaf, V.ro false x.en.length (2 : Nat) fun (k : Nat) => (x.en.getD k en0).v, V.ro false x.br.length (2 : Nat) fun (k : Nat) => (x.br.getD k br0).v])).br.getD i br0).key ∧ (x.br.getD i br0).page = ((decNd (V.agg [V.sb x.leaf, V.ro false x.en.length (2 : Nat) fun (k : Nat) => (x.en.getD k en0).v, V.ro false x.br.length (2 : Nat) fun (k : Nat) => (x.br.getD k br0).v])).br.getD i br0).page ∧ True) ∧ True) ∧ True) ∧ (lg06 (decNd (V.agg [V.sb x.leaf, V.ro false x.en.length (2 : Nat) fun (k : Nat) => (x.en.getD k en0).v, V.ro false x.br.length (2 : Nat) fun (k : Nat) => (x.br.getD k br0).v])) = true → True ∧ true = true) ∧ (lg06 (decNd (V.agg [V.sb x.leaf, V.ro false x.en.length (2 : Nat) fun (k : Nat) => (x.en.getD k en0).v, V.ro false x.br.length (2 : Nat) fun (k : Nat) => (x.br.getD k br0).v])) = false → (decide ((300 : Int) < (↑key.length : Int)) = true → True ∧ true = true) ∧ (decide ((300 : Int) < (↑key.length : Int)) = false → True ∧ ((!true) = true → True ∧ true = true) ∧ ((!true) = false → ((x.leaf = (decNd (V.agg [V.sb x.leaf, V.ro false x.en.length (2 : Nat) fun (k : Nat) => (x.en.getD k en0).v, V.ro false x.br.length (2 : Nat) fun (k : Nat) => (x.br.getD k br0).v])).leaf ∧ (True ∧ x.en.length = (decNd (V.agg [V.sb x.leaf, V.ro false x.en.length (2 : Nat) fun (k : Nat) => (x.en.getD k en0).v, V.ro false x.br.length (2 : Nat) fun (k : Nat) => (x.br.getD k br0).v])).en.length ∧ True ∧
      ∀ (i : Nat), i < (decNd (V.agg [V.sb x.leaf, V.ro false x.en.length (2 : Nat) fun (k : Nat) => (x.en.getD k en0).v, V.ro false x.br.length (2 : Nat) fun (k : Nat) => (x.br.getD k br0).v])).en.length → (x.en.getD i en0).key = ((decNd (V.agg [V.sb x.leaf, V.ro false x.en.length (2 : Nat) fun (k : Nat) => (x.en.getD k en0).v, V.ro false x.br.length (2 : Nat) fun (k : Nat) => (x.br.getD k br0).v])).en.getD i en0).key ∧ (x.en.getD i en0).val = ((decNd (V.agg [V.sb x.leaf, V.ro false x.en.length (2 : Nat) fun (k : Nat) => (x.en.getD k en0).v, V.ro false x.br.length (2 : Nat) fun (k : Nat) => (x.br.getD k br0).v])).en.getD i en0).val ∧ True) ∧ (True ∧ x.br.length = (decNd (V.agg [V.sb x.leaf, V.ro false x.en.length (2 : Nat) fun (k : Nat) => (x.en.getD k en0).v, V.ro false x.br.length (2 : Nat) fun (k : Nat) => (x.br.getD k br0).v])).br.length ∧ True ∧ ∀ (i : Nat), i < (decNd (V.agg [V.sb x.leaf, V.ro false x.en.length (2 : Nat) fun (k : Nat) => (x.en.getD k en0).v, V.ro false x.br.length (2 : Nat) fun (k : Nat) => (x.br.getD k br0).v])).br.length → (x.br.getD i br0).key = ((decNd (V.agg [V.sb x.leaf, V.ro false x.en.length (2 : Nat) fun (k : Nat) => (x.en.getD k en0).v, V.ro false x.br.length (2 : Nat) fun (k : Nat) => (x.br.getD k br0).v])).br.getD i br0).key ∧ (x.br.getD i br0).page = ((decNd (V.agg [V.sb x.leaf, V.ro false x.en.length (2 : Nat) fun (k : Nat) => (x.en.getD k en0).v, V.ro false x.br.length (2 : Nat) fun (k : Nat) => (x.br.getD k br0).v])).br.getD i br0).page ∧
      True) ∧ True) ∧ (decNd (V.agg [V.sb x.leaf, V.ro false x.en.length (2 : Nat) fun (k : Nat) => (x.en.getD k en0).v, V.ro false x.br.length (2 : Nat) fun (k : Nat) => (x.br.getD k br0).v])).en.length ≤ (4000000000000 : Nat) ∧ (decNd (V.agg [V.sb x.leaf, V.ro false x.en.length (2 : Nat) fun (k : Nat) => (x.en.getD k en0).v, V.ro false x.br.length (2 : Nat) fun (k : Nat) => (x.br.getD k br0).v])).br.length ≤ (4000000000000 : Nat)) ∧
      (((decNd (V.agg [V.sb x.leaf, V.ro false x.en.length (2 : Nat) fun (k : Nat) => (x.en.getD k en0).v, V.ro false x.br.length (2 : Nat) fun (k : Nat) => (x.br.getD k br0).v])).leaf = (decNd (V.agg [V.sb (decNd (V.agg [V.sb x.leaf, V.ro false x.en.length (2 : Nat) fun (k : Nat) => (x.en.getD k en0).v, V.ro false x.br.length (2 : Nat) fun (k : Nat) => (x.br.getD k br0).v])).leaf, V.ro false (decNd (V.agg [V.sb x.leaf, V.ro false x.en.length (2 : Nat) fun (k : Nat) => (x.en.getD k en0).v, V.ro false x.br.length (2 : Nat) fun (k : Nat) => (x.br.getD k br0).v])).en.length (2 : Nat) fun (k : Nat) => ((decNd (V.agg [V.sb x.leaf, V.ro false x.en.length (2 : Nat) fun (k : Nat) => (x.en.getD k en0).v, V.ro false x.br.length (2 : Nat) fun (k : Nat) => (x.br.getD k br0).v])).en.getD k en0).v, V.ro false (decNd (V.agg [V.sb x.leaf, V.ro false x.en.length (2 : Nat) fun (k : Nat) => (x.en.getD k en0).v, V.ro false x.br.length (2 : Nat) fun (k : Nat) => (x.br.getD k br0).v])).br.length (2 : Nat) fun (k : Nat) => ((decNd (V.agg [V.sb x.leaf, V.ro false x.en.length (2 : Nat) fun (k : Nat) => (x.en.getD k en0).v, V.ro false x.br.length (2 : Nat) fun (k : Nat) => (x.br.getD k br0).v])).br.getD k br0).v])).leaf ∧ (True ∧
      (decNd (V.agg [V.sb x.leaf, V.ro false x.en.length (2 : Nat) fun (k : Nat) => (x.en.getD k en0).v, V.ro false x.br.length (2 : Nat) fun (k : Nat) => (x.br.getD k br0).v])).en.length = (decNd (V.agg [V.sb (decNd (V.agg [V.sb x.leaf, V.ro false x.en.length (2 : Nat) fun (k : Nat) => (x.en.getD k en0).v, V.ro false x.br.length (2 : Nat) fun (k : Nat) => (x.br.getD k br0).v])).leaf, V.ro false (decNd (V.agg [V.sb x.leaf, V.ro false x.en.length (2 : Nat) fun (k : Nat) => (x.en.getD k en0).v, V.ro false x.br.length (2 : Nat) fun (k : Nat) => (x.br.getD k br0).v])).en.length (2 : Nat) fun (k : Nat) => ((decNd (V.agg [V.sb x.leaf, V.ro false x.en.length (2 : Nat) fun (k : Nat) => (x.en.getD k en0).v, V.ro false x.br.length (2 : Nat) fun (k : Nat) => (x.br.getD k br0).v])).en.getD k en0).v, V.ro false (decNd (V.agg [V.sb x.leaf, V.ro false x.en.length (2 : Nat) fun (k : Nat) => (x.en.getD k en0).v, V.ro false x.br.length (2 : Nat) fun (k : Nat) => (x.br.getD k br0).v])).br.length (2 : Nat) fun (k : Nat) => ((decNd (V.agg [V.sb x.leaf, V.ro false x.en.length (2 : Nat) fun (k : Nat) => (x.en.getD k en0).v, V.ro false x.br.length (2 : Nat) fun (k : Nat) => (x.br.getD k br0).v])).br.getD k br0).v])).en.length ∧ True ∧
      ∀ (i : Nat), i < (decNd (V.agg [V.sb (decNd (V.agg [V.sb x.leaf, V.ro false x.en.length (2 : Nat) fun (k : Nat) => (x.en.getD k en0).v, V.ro false x.br.length (2 : Nat) fun (k : Nat) => (x.br.getD k br0).v])).leaf, V.ro false (decNd (V.agg [V.sb x.leaf, V.ro false x.en.length (2 : Nat) fun (k : Nat) => (x.en.getD k en0).v, V.ro false x.br.length (2 : Nat) fun (k : Nat) => (x.br.getD k br0).v])).en.length (2 : Nat) fun (k : Nat) => ((decNd (V.agg [V.sb x.leaf, V.ro false x.en.length (2 : Nat) fun (k : Nat) => (x.en.getD k en0).v, V.ro false x.br.length (2 : Nat) fun (k : Nat) => (x.br.getD k br0).v])).en.getD k en0).v, V.ro false (decNd (V.agg [V.sb x.leaf, V.ro false x.en.length (2 : Nat) fun (k : Nat) => (x.en.getD k en0).v, V.ro false x.br.length (2 : Nat) fun (k : Nat) => (x.br.getD k br0).v])).br.length (2 : Nat) fun (k : Nat) => ((decNd (V.agg [V.sb x.leaf, V.ro false x.en.length (2 : Nat) fun (k : Nat) => (x.en.getD k en0).v, V.ro false x.br.length (2 : Nat) fun (k : Nat) => (x.br.getD k br0).v])).br.getD k br0).v])).en.length →
      ((decNd (V.agg [V.sb x.leaf, V.ro false x.en.length (2 : Nat) fun (k : Nat) => (x.en.getD k en0).v, V.ro false x.br.length (2 : Nat) fun (k : Nat) => (x.br.getD k br0).v])).en.getD i en0).key = ((decNd (V.agg [V.sb (decNd (V.agg [V.sb x.leaf, V.ro false x.en.length (2 : Nat) fun (k : Nat) => (x.en.getD k en0).v, V.ro false x.br.length (2 : Nat) fun (k : Nat) => (x.br.getD k br0).v])).leaf, V.ro false (decNd (V.agg [V.sb x.leaf, V.ro false x.en.length (2 : Nat) fun (k : Nat) => (x.en.getD k en0).v, V.ro false x.br.length (2 : Nat) fun (k : Nat) => (x.br.getD k br0).v])).en.length (2 : Nat) fun (k : Nat) => ((decNd (V.agg [V.sb x.leaf, V.ro false x.en.length (2 : Nat) fun (k : Nat) => (x.en.getD k en0).v, V.ro false x.br.length (2 : Nat) fun (k : Nat) => (x.br.getD k br0).v])).en.getD k en0).v, V.ro false (decNd (V.agg [V.sb x.leaf, V.ro false x.en.length (2 : Nat) fun (k : Nat) => (x.en.getD k en0).v, V.ro false x.br.length (2 : Nat) fun (k : Nat) => (x.br.getD k br0).v])).br.length (2 : Nat) fun (k : Nat) => ((decNd (V.agg [V.sb x.leaf, V.ro false x.en.length (2 : Nat) fun (k : Nat) => (x.en.getD k en0).v, V.ro false x.br.length (2 : Nat) fun (k : Nat) => (x.br.getD k br0).v])).br.getD k br0).v])).en.getD i en0).key ∧
      ((decNd (V.agg [V.sb x.leaf, V.ro false x.en.length (2 : Nat) fun (k : Nat) => (x.en.getD k en0).v, V.ro false x.br.length (2 : Nat) fun (k : Nat) => (x.br.getD k br0).v])).en.getD i en0).val = ((decNd (V.agg [V.sb (decNd (V.agg [V.sb x.leaf, V.ro false x.en.length (2 : Nat) fun (k : Nat) => (x.en.getD k en0).v, V.ro false x.br.length (2 : Nat) fun (k : Nat) => (x.br.getD k br0).v])).leaf, V.ro false (decNd (V.agg [V.sb x.leaf, V.ro false x.en.length (2 : Nat) fun (k : Nat) => (x.en.getD k en0).v, V.ro false x.br.length (2 : Nat) fun (k : Nat) => (x.br.getD k br0).v])).en.length (2 : Nat) fun (k : Nat) => ((decNd (V.agg [V.sb x.leaf, V.ro false x.en.length (2 : Nat) fun (k : Nat) => (x.en.getD k en0).v, V.ro false x.br.length (2 : Nat) fun (k : Nat) => (x.br.getD k br0).v])).en.getD k en0).v, V.ro false (decNd (V.agg [V.sb x.leaf, V.ro false x.en.length (2 : Nat) fun (k : Nat) => (x.en.getD k en0).v, V.ro false x.br.length (2 : Nat) fun (k : Nat) => (x.br.getD k br0).v])).br.length (2 : Nat) fun (k : Nat) => ((decNd (V.agg [V.sb x.leaf, V.ro false x.en.length (2 : Nat) fun (k : Nat) => (x.en.getD k en0).v, V.ro false x.br.length (2 : Nat) fun (k : Nat) => (x.br.getD k br0).v])).br.getD k br0).v])).en.getD i en0).val ∧ True) ∧ (True ∧
      (decNd (V.agg [V.sb x.leaf, V.ro false x.en.length (2 : Nat) fun (k : Nat) => (x.en.getD k en0).v, V.ro false x.br.length (2 : Nat) fun (k : Nat) => (x.br.getD k br0).v])).br.length = (decNd (V.agg [V.sb (decNd (V.agg [V.sb x.leaf, V.ro false x.en.length (2 : Nat) fun (k : Nat) => (x.en.getD k en0).v, V.ro false x.br.length (2 : Nat) fun (k : Nat) => (x.br.getD k br0).v])).leaf, V.ro false (decNd (V.agg [V.sb x.leaf, V.ro false x.en.length (2 : Nat) fun (k : Nat) => (x.en.getD k en0).v, V.ro false x.br.length (2 : Nat) fun (k : Nat) => (x.br.getD k br0).v])).en.length (2 : Nat) fun (k : Nat) => ((decNd (V.agg [V.sb x.leaf, V.ro false x.en.length (2 : Nat) fun (k : Nat) => (x.en.getD k en0).v, V.ro false x.br.length (2 : Nat) fun (k : Nat) => (x.br.getD k br0).v])).en.getD k en0).v, V.ro false (decNd (V.agg [V.sb x.leaf, V.ro false x.en.length (2 : Nat) fun (k : Nat) => (x.en.getD k en0).v, V.ro false x.br.length (2 : Nat) fun (k : Nat) => (x.br.getD k br0).v])).br.length (2 : Nat) fun (k : Nat) => ((decNd (V.agg [V.sb x.leaf, V.ro false x.en.length (2 : Nat) fun (k : Nat) => (x.en.getD k en0).v, V.ro false x.br.length (2 : Nat) fun (k : Nat) => (x.br.getD k br0).v])).br.getD k br0).v])).br.length ∧ True ∧
      ∀ (i : Nat), i < (decNd (V.agg [V.sb (decNd (V.agg [V.sb x.leaf, V.ro false x.en.length (2 : Nat) fun (k : Nat) => (x.en.getD k en0).v, V.ro false x.br.length (2 : Nat) fun (k : Nat) => (x.br.getD k br0).v])).leaf, V.ro false (decNd (V.agg [V.sb x.leaf, V.ro false x.en.length (2 : Nat) fun (k : Nat) => (x.en.getD k en0).v, V.ro false x.br.length (2 : Nat) fun (k : Nat) => (x.br.getD k br0).v])).en.length (2 : Nat) fun (k : Nat) => ((decNd (V.agg [V.sb x.leaf, V.ro false x.en.length (2 : Nat) fun (k : Nat) => (x.en.getD k en0).v, V.ro false x.br.length (2 : Nat) fun (k : Nat) => (x.br.getD k br0).v])).en.getD k en0).v, V.ro false (decNd (V.agg [V.sb x.leaf, V.ro false x.en.length (2 : Nat) fun (k : Nat) => (x.en.getD k en0).v, V.ro false x.br.length (2 : Nat) fun (k : Nat) => (x.br.getD k br0).v])).br.length (2 : Nat) fun (k : Nat) => ((decNd (V.agg [V.sb x.leaf, V.ro false x.en.length (2 : Nat) fun (k : Nat) => (x.en.getD k en0).v, V.ro false x.br.length (2 : Nat) fun (k : Nat) => (x.br.getD k br0).v])).br.getD k br0).v])).br.length →
      ((decNd (V.agg [V.sb x.leaf, V.ro false x.en.length (2 : Nat) fun (k : Nat) => (x.en.getD k en0).v, V.ro false x.br.length (2 : Nat) fun (k : Nat) => (x.br.getD k br0).v])).br.getD i br0).key = ((decNd (V.agg [V.sb (decNd (V.agg [V.sb x.leaf, V.ro false x.en.length (2 : Nat) fun (k : Nat) => (x.en.getD k en0).v, V.ro false x.br.length (2 : Nat) fun (k : Nat) => (x.br.getD k br0).v])).leaf, V.ro false (decNd (V.agg [V.sb x.leaf, V.ro false x.en.length (2 : Nat) fun (k : Nat) => (x.en.getD k en0).v, V.ro false x.br.length (2 : Nat) fun (k : Nat) => (x.br.getD k br0).v])).en.length (2 : Nat) fun (k : Nat) => ((decNd (V.agg [V.sb x.leaf, V.ro false x.en.length (2 : Nat) fun (k : Nat) => (x.en.getD k en0).v, V.ro false x.br.length (2 : Nat) fun (k : Nat) => (x.br.getD k br0).v])).en.getD k en0).v, V.ro false (decNd (V.agg [V.sb x.leaf, V.ro false x.en.length (2 : Nat) fun (k : Nat) => (x.en.getD k en0).v, V.ro false x.br.length (2 : Nat) fun (k : Nat) => (x.br.getD k br0).v])).br.length (2 : Nat) fun (k : Nat) => ((decNd (V.agg [V.sb x.leaf, V.ro false x.en.length (2 : Nat) fun (k : Nat) => (x.en.getD k en0).v, V.ro false x.br.length (2 : Nat) fun (k : Nat) => (x.br.getD k br0).v])).br.getD k br0).v])).br.getD i br0).key ∧
      ((decNd (V.agg [V.sb x.leaf, V.ro false x.en.length (2 : Nat) fun (k : Nat) => (x.en.getD k en0).v, V.ro false x.br.length (2 : Nat) fun (k : Nat) => (x.br.getD k br0).v])).br.getD i br0).page = ((decNd (V.agg [V.sb (decNd (V.agg [V.sb x.leaf, V.ro false x.en.length (2 : Nat) fun (k : Nat) => (x.en.getD k en0).v, V.ro false x.br.length (2 : Nat) fun (k : Nat) => (x.br.getD k br0).v])).leaf, V.ro false (decNd (V.agg [V.sb x.leaf, V.ro false x.en.length (2 : Nat) fun (k : Nat) => (x.en.getD k en0).v, V.ro false x.br.length (2 : Nat) fun (k : Nat) => (x.br.getD k br0).v])).en.length (2 : Nat) fun (k : Nat) => ((decNd (V.agg [V.sb x.leaf, V.ro false x.en.length (2 : Nat) fun (k : Nat) => (x.en.getD k en0).v, V.ro false x.br.length (2 : Nat) fun (k : Nat) => (x.br.getD k br0).v])).en.getD k en0).v, V.ro false (decNd (V.agg [V.sb x.leaf, V.ro false x.en.length (2 : Nat) fun (k : Nat) => (x.en.getD k en0).v, V.ro false x.br.length (2 : Nat) fun (k : Nat) => (x.br.getD k br0).v])).br.length (2 : Nat) fun (k : Nat) => ((decNd (V.agg [V.sb x.leaf, V.ro false x.en.length (2 : Nat) fun (k : Nat) => (x.en.getD k en0).v, V.ro false x.br.length (2 : Nat) fun (k : Nat) => (x.br.getD k br0).v])).br.getD k br0).v])).br.getD i br0).page ∧ True) ∧ True) ∧
      (decNd (V.agg [V.sb (decNd (V.agg [V.sb x.leaf, V.ro false x.en.length (2 : Nat) fun (k : Nat) => (x.en.getD k en0).v, V.ro false x.br.length (2 : Nat) fun (k : Nat) => (x.br.getD k br0).v])).leaf, V.ro false (decNd (V.agg [V.sb x.leaf, V.ro false x.en.length (2 : Nat) fun (k : Nat) => (x.en.getD k en0).v, V.ro false x.br.length (2 : Nat) fun (k : Nat) => (x.br.getD k br0).v])).en.length (2 : Nat) fun (k : Nat) => ((decNd (V.agg [V.sb x.leaf, V.ro false x.en.length (2 : Nat) fun (k : Nat) => (x.en.getD k en0).v, V.ro false x.br.length (2 : Nat) fun (k : Nat) => (x.br.getD k br0).v])).en.getD k en0).v, V.ro false (decNd (V.agg [V.sb x.leaf, V.ro false x.en.length (2 : Nat) fun (k : Nat) => (x.en.getD k en0).v, V.ro false x.br.length (2 : Nat) fun (k : Nat) => (x.br.getD k br0).v])).br.length (2 : Nat) fun (k : Nat) => ((decNd (V.agg [V.sb x.leaf, V.ro false x.en.length (2 : Nat) fun (k : Nat) => (x.en.getD k en0).v, V.ro false x.br.length (2 : Nat) fun (k : Nat) => (x.br.getD k br0).v])).br.getD k br0).v])).en.length ≤ (4000000000000 : Nat) ∧
      (decNd (V.agg [V.sb (decNd (V.agg [V.sb x.leaf, V.ro false x.en.length (2 : Nat) fun (k : Nat) => (x.en.getD k en0).v, V.ro false x.br.length (2 : Nat) fun (k : Nat) => (x.br.getD k br0).v])).leaf, V.ro false (decNd (V.agg [V.sb x.leaf, V.ro false x.en.length (2 : Nat) fun (k : Nat) => (x.en.getD k en0).v, V.ro false x.br.length (2 : Nat) fun (k : Nat) => (x.br.getD k br0).v])).en.length (2 : Nat) fun (k : Nat) => ((decNd (V.agg [V.sb x.leaf, V.ro false x.en.length (2 : Nat) fun (k : Nat) => (x.en.getD k en0).v, V.ro false x.br.length (2 : Nat) fun (k : Nat) => (x.br.getD k br0).v])).en.getD k en0).v, V.ro false (decNd (V.agg [V.sb x.leaf, V.ro false x.en.length (2 : Nat) fun (k : Nat) => (x.en.getD k en0).v, V.ro false x.br.length (2 : Nat) fun (k : Nat) => (x.br.getD k br0).v])).br.length (2 : Nat) fun (k : Nat) => ((decNd (V.agg [V.sb x.leaf, V.ro false x.en.length (2 : Nat) fun (k : Nat) => (x.en.getD k en0).v, V.ro false x.br.length (2 : Nat) fun (k : Nat) => (x.br.getD k br0).v])).br.getD k br0).v])).br.length ≤ (4000000000000 : Nat)) ∧
      ((!mayN (decNd (V.agg [V.sb (decNd (V.agg [V.sb x.leaf, V.ro false x.en.length (2 : Nat) fun (k : Nat) => (x.en.getD k en0).v, V.ro false x.br.length (2 : Nat) fun (k : Nat) => (x.br.getD k br0).v])).leaf, V.ro false (decNd (V.agg [V.sb x.leaf, V.ro false x.en.length (2 : Nat) fun (k : Nat) => (x.en.getD k en0).v, V.ro false x.br.length (2 : Nat) fun (k : Nat) => (x.br.getD k br0).v])).en.length (2 : Nat) fun (k : Nat) => ((decNd (V.agg [V.sb x.leaf, V.ro false x.en.length (2 : Nat) fun (k : Nat) => (x.en.getD k en0).v, V.ro false x.br.length (2 : Nat) fun (k : Nat) => (x.br.getD k br0).v])).en.getD k en0).v, V.ro false (decNd (V.agg [V.sb x.leaf, V.ro false x.en.length (2 : Nat) fun (k : Nat) => (x.en.getD k en0).v, V.ro false x.br.length (2 : Nat) fun (k : Nat) => (x.br.getD k br0).v])).br.length (2 : Nat) fun (k : Nat) => ((decNd (V.agg [V.sb x.leaf, V.ro false x.en.length (2 : Nat) fun (k : Nat) => (x.en.getD k en0).v, V.ro false x.br.length (2 : Nat) fun (k : Nat) => (x.br.getD k br0).v])).br.getD k br0).v]))) = true → smB [] ∧ decide (plc [] key = (0 : Int)) = true) ∧
      ((!mayN (decNd (V.agg [V.sb (decNd (V.agg [V.sb x.leaf, V.ro false x.en.length (2 : Nat) fun (k : Nat) => (x.en.getD k en0).v, V.ro false x.br.length (2 : Nat) fun (k : Nat) => (x.br.getD k br0).v])).leaf, V.ro false (decNd (V.agg [V.sb x.leaf, V.ro false x.en.length (2 : Nat) fun (k : Nat) => (x.en.getD k en0).v, V.ro false x.br.length (2 : Nat) fun (k : Nat) => (x.br.getD k br0).v])).en.length (2 : Nat) fun (k : Nat) => ((decNd (V.agg [V.sb x.leaf, V.ro false x.en.length (2 : Nat) fun (k : Nat) => (x.en.getD k en0).v, V.ro false x.br.length (2 : Nat) fun (k : Nat) => (x.br.getD k br0).v])).en.getD k en0).v, V.ro false (decNd (V.agg [V.sb x.leaf, V.ro false x.en.length (2 : Nat) fun (k : Nat) => (x.en.getD k en0).v, V.ro false x.br.length (2 : Nat) fun (k : Nat) => (x.br.getD k br0).v])).br.length (2 : Nat) fun (k : Nat) => ((decNd (V.agg [V.sb x.leaf, V.ro false x.en.length (2 : Nat) fun (k : Nat) => (x.en.getD k en0).v, V.ro false x.br.length (2 : Nat) fun (k : Nat) => (x.br.getD k br0).v])).br.getD k br0).v]))) = false → (decide ((↑(decNd (V.agg [V.sb x.leaf, V.ro false x.en.length (2 : Nat) fun (k : Nat) => (x.en.getD k en0).v, V.ro false x.br.length (2 : Nat) fun (k : Nat) => (x.br.getD k br0).v])).br.length : Int) = (0 : Int)) = true → smB [] ∧ decide (plc [] key = (0 : Int)) = true) ∧
      (decide ((↑(decNd (V.agg [V.sb x.leaf, V.ro false x.en.length (2 : Nat) fun (k : Nat) => (x.en.getD k en0).v, V.ro false x.br.length (2 : Nat) fun (k : Nat) => (x.br.getD k br0).v])).br.length : Int) = (0 : Int)) = false → ((∀ (k : Nat), k < (decNd (V.agg [V.sb x.leaf, V.ro false x.en.length (2 : Nat) fun (k : Nat) => (x.en.getD k en0).v, V.ro false x.br.length (2 : Nat) fun (k : Nat) => (x.br.getD k br0).v])).br.length → ((decNd (V.agg [V.sb x.leaf, V.ro false x.en.length (2 : Nat) fun (k : Nat) => (x.en.getD k en0).v, V.ro false x.br.length (2 : Nat) fun (k : Nat) => (x.br.getD k br0).v])).br.getD k br0).key = (decBr ((decNd (V.agg [V.sb x.leaf, V.ro false x.en.length (2 : Nat) fun (k : Nat) => (x.en.getD k en0).v, V.ro false x.br.length (2 : Nat) fun (k : Nat) => (x.br.getD k br0).v])).br.getD k br0).v).key ∧ ((decNd (V.agg [V.sb x.leaf, V.ro false x.en.length (2 : Nat) fun (k : Nat) => (x.en.getD k en0).v, V.ro false x.br.length (2 : Nat) fun (k : Nat) => (x.br.getD k br0).v])).br.getD k br0).page = (decBr ((decNd (V.agg [V.sb x.leaf, V.ro false x.en.length (2 : Nat) fun (k : Nat) => (x.en.getD k en0).v, V.ro false x.br.length (2 : Nat) fun (k : Nat) => (x.br.getD k br0).v])).br.getD k br0).v).page ∧ True) ∧
      smB (List.map (fun (k : Nat) => decBr ((decNd (V.agg [V.sb x.leaf, V.ro false x.en.length (2 : Nat) fun (k : Nat) => (x.en.getD k en0).v, V.ro false x.br.length (2 : Nat) fun (k : Nat) => (x.br.getD k br0).v])).br.getD k br0).v) (List.range (decNd (V.agg [V.sb x.leaf, V.ro false x.en.length (2 : Nat) fun (k : Nat) => (x.en.getD k en0).v, V.ro false x.br.length (2 : Nat) fun (k : Nat) => (x.br.getD k br0).v])).br.length))) ∧ (decide (plc (List.map (fun (k : Nat) => decBr ((decNd (V.agg [V.sb x.leaf, V.ro false x.en.length (2 : Nat) fun (k : Nat) => (x.en.getD k en0).v, V.ro false x.br.length (2 : Nat) fun (k : Nat) => (x.br.getD k br0).v])).br.getD k br0).v) (List.range (decNd (V.agg [V.sb x.leaf, V.ro false x.en.length (2 : Nat) fun (k : Nat) => (x.en.getD k en0).v, V.ro false x.br.length (2 : Nat) fun (k : Nat) => (x.br.getD k br0).v])).br.length)) key < (0 : Int)) = true → false = true) ∧ (decide (plc (List.map (fun (k : Nat) => decBr ((decNd (V.agg [V.sb x.leaf, V.ro false x.en.length (2 : Nat) fun (k : Nat) => (x.en.getD k en0).v, V.ro false x.br.length (2 : Nat) fun (k : Nat) => (x.br.getD k br0).v])).br.getD k br0).v) (List.range (decNd (V.agg [V.sb x.leaf, V.ro false x.en.length (2 : Nat) fun (k : Nat) => (x.en.getD k en0).v, V.ro false x.br.length (2 : Nat) fun (k : Nat) => (x.br.getD k br0).v])).br.length)) key < (0 : Int)) = false →
      (decide ((↑(decNd (V.agg [V.sb x.leaf, V.ro false x.en.length (2 : Nat) fun (k : Nat) => (x.en.getD k en0).v, V.ro false x.br.length (2 : Nat) fun (k : Nat) => (x.br.getD k br0).v])).br.length : Int) ≤ plc (List.map (fun (k : Nat) => decBr ((decNd (V.agg [V.sb x.leaf, V.ro false x.en.length (2 : Nat) fun (k : Nat) => (x.en.getD k en0).v, V.ro false x.br.length (2 : Nat) fun (k : Nat) => (x.br.getD k br0).v])).br.getD k br0).v) (List.range (decNd (V.agg [V.sb x.leaf, V.ro false x.en.length (2 : Nat) fun (k : Nat) => (x.en.getD k en0).v, V.ro false x.br.length (2 : Nat) fun (k : Nat) => (x.br.getD k br0).v])).br.length)) key) = true → false = true) ∧ (decide ((↑(decNd (V.agg [V.sb x.leaf, V.ro false x.en.length (2 : Nat) fun (k : Nat) => (x.en.getD k en0).v, V.ro false x.br.length (2 : Nat) fun (k : Nat) => (x.br.getD k br0).v])).br.length : Int) ≤ plc (List.map (fun (k : Nat) => decBr ((decNd (V.agg [V.sb x.leaf, V.ro false x.en.length (2 : Nat) fun (k : Nat) => (x.en.getD k en0).v, V.ro false x.br.length (2 : Nat) fun (k : Nat) => (x.br.getD k br0).v])).br.getD k br0).v) (List.range (decNd (V.agg [V.sb x.leaf, V.ro false x.en.length (2 : Nat) fun (k : Nat) => (x.en.getD k en0).v, V.ro false x.br.length (2 : Nat) fun (k : Nat) => (x.br.getD k br0).v])).br.length)) key) = false →
      (decide (plc (List.map (fun (k : Nat) => decBr ((decNd (V.agg [V.sb x.leaf, V.ro false x.en.length (2 : Nat) fun (k : Nat) => (x.en.getD k en0).v, V.ro false x.br.length (2 : Nat) fun (k : Nat) => (x.br.getD k br0).v])).br.getD k br0).v) (List.range (decNd (V.agg [V.sb x.leaf, V.ro false x.en.length (2 : Nat) fun (k : Nat) => (x.en.getD k en0).v, V.ro false x.br.length (2 : Nat) fun (k : Nat) => (x.br.getD k br0).v])).br.length)) key = (0 : Int)) = true → (decide (IntKind.i64.wrap (plc (List.map (fun (k : Nat) => decBr ((decNd (V.agg [V.sb x.leaf, V.ro false x.en.length (2 : Nat) fun (k : Nat) => (x.en.getD k en0).v, V.ro false x.br.length (2 : Nat) fun (k : Nat) => (x.br.getD k br0).v])).br.getD k br0).v) (List.range (decNd (V.agg [V.sb x.leaf, V.ro false x.en.length (2 : Nat) fun (k : Nat) => (x.en.getD k en0).v, V.ro false x.br.length (2 : Nat) fun (k : Nat) => (x.br.getD k br0).v])).br.length)) key + (1 : Int)) = (↑(decNd (V.agg [V.sb x.leaf, V.ro false x.en.length (2 : Nat) fun (k : Nat) => (x.en.getD k en0).v, V.ro false x.br.length (2 : Nat) fun (k : Nat) => (x.br.getD k br0).v])).br.length : Int)) = true → true = true) ∧
      (decide (IntKind.i64.wrap (plc (List.map (fun (k : Nat) => decBr ((decNd (V.agg [V.sb x.leaf, V.ro false x.en.length (2 : Nat) fun (k : Nat) => (x.en.getD k en0).v, V.ro false x.br.length (2 : Nat) fun (k : Nat) => (x.br.getD k br0).v])).br.getD k br0).v) (List.range (decNd (V.agg [V.sb x.leaf, V.ro false x.en.length (2 : Nat) fun (k : Nat) => (x.en.getD k en0).v, V.ro false x.br.length (2 : Nat) fun (k : Nat) => (x.br.getD k br0).v])).br.length)) key + (1 : Int)) = (↑(decNd (V.agg [V.sb x.leaf, V.ro false x.en.length (2 : Nat) fun (k : Nat) => (x.en.getD k en0).v, V.ro false x.br.length (2 : Nat) fun (k : Nat) => (x.br.getD k br0).v])).br.length : Int)) = false → ((0 : Int) ≤ IntKind.i64.wrap (plc (List.map (fun (k : Nat) => decBr ((decNd (V.agg [V.sb x.leaf, V.ro false x.en.length (2 : Nat) fun (k : Nat) => (x.en.getD k en0).v, V.ro false x.br.length (2 : Nat) fun (k : Nat) => (x.br.getD k br0).v])).br.getD k br0).v) (List.range (decNd (V.agg [V.sb x.leaf, V.ro false x.en.length (2 : Nat) fun (k : Nat) => (x.en.getD k en0).v, V.ro false x.br.length (2 : Nat) fun (k : Nat) => (x.br.getD k br0).v])).br.length)) key + (1 : Int)) ∧
      IntKind.i64.wrap (plc (List.map (fun (k : Nat) => decBr ((decNd (V.agg [V.sb x.leaf, V.ro false x.en.length (2 : Nat) fun (k : Nat) => (x.en.getD k en0).v, V.ro false x.br.length (2 : Nat) fun (k : Nat) => (x.br.getD k br0).v])).br.getD k br0).v) (List.range (decNd (V.agg [V.sb x.leaf, V.ro false x.en.length (2 : Nat) fun (k : Nat) => (x.en.getD k en0).v, V.ro false x.br.length (2 : Nat) fun (k : Nat) => (x.br.getD k br0).v])).br.length)) key + (1 : Int)) < (↑(decNd (V.agg [V.sb x.leaf, V.ro false x.en.length (2 : Nat) fun (k : Nat) => (x.en.getD k en0).v, V.ro false x.br.length (2 : Nat) fun (k : Nat) => (x.br.getD k br0).v])).br.length : Int)) ∧
      (!(Op.bytesLess ((decNd (V.agg [V.sb x.leaf, V.ro false x.en.length (2 : Nat) fun (k : Nat) => (x.en.getD k en0).v, V.ro false x.br.length (2 : Nat) fun (k : Nat) => (x.br.getD k br0).v])).br.getD (IntKind.i64.wrap (plc (List.map (fun (k : Nat) => decBr ((decNd (V.agg [V.sb x.leaf, V.ro false x.en.length (2 : Nat) fun (k : Nat) => (x.en.getD k en0).v, V.ro false x.br.length (2 : Nat) fun (k : Nat) => (x.br.getD k br0).v])).br.getD k br0).v) (List.range (decNd (V.agg [V.sb x.leaf, V.ro false x.en.length (2 : Nat) fun (k : Nat) => (x.en.getD k en0).v, V.ro false x.br.length (2 : Nat) fun (k : Nat) => (x.br.getD k br0).v])).br.length)) key + (1 : Int))).toNat br0).key key || decide (((decNd (V.agg [V.sb x.leaf, V.ro false x.en.length (2 : Nat) fun (k : Nat) => (x.en.getD k en0).v, V.ro false x.br.length (2 : Nat) fun (k : Nat) => (x.br.getD k br0).v])).br.getD (IntKind.i64.wrap (plc (List.map (fun (k : Nat) => decBr ((decNd (V.agg [V.sb x.leaf, V.ro false x.en.length (2 : Nat) fun (k : Nat) => (x.en.getD k en0).v, V.ro false x.br.length (2 : Nat) fun (k : Nat) => (x.br.getD k br0).v])).br.getD k br0).v) (List.range (decNd (V.agg [V.sb x.leaf, V.ro false x.en.length (2 : Nat) fun (k : Nat) => (x.en.getD k en0).v, V.ro false x.br.length (2 : Nat) fun (k : Nat) => (x.br.getD k br0).v])).br.length)) key + (1 : Int))).toNat br0).key = key))) = true)) ∧
      (decide (plc (List.map (fun (k : Nat) => decBr ((decNd (V.agg [V.sb x.leaf, V.ro false x.en.length (2 : Nat) fun (k : Nat) => (x.en.getD k en0).v, V.ro false x.br.length (2 : Nat) fun (k : Nat) => (x.br.getD k br0).v])).br.getD k br0).v) (List.range (decNd (V.agg [V.sb x.leaf, V.ro false x.en.length (2 : Nat) fun (k : Nat) => (x.en.getD k en0).v, V.ro false x.br.length (2 : Nat) fun (k : Nat) => (x.br.getD k br0).v])).br.length)) key = (0 : Int)) = false → ((0 : Int) ≤ plc (List.map (fun (k : Nat) => decBr ((decNd (V.agg [V.sb x.leaf, V.ro false x.en.length (2 : Nat) fun (k : Nat) => (x.en.getD k en0).v, V.ro false x.br.length (2 : Nat) fun (k : Nat) => (x.br.getD k br0).v])).br.getD k br0).v) (List.range (decNd (V.agg [V.sb x.leaf, V.ro false x.en.length (2 : Nat) fun (k : Nat) => (x.en.getD k en0).v, V.ro false x.br.length (2 : Nat) fun (k : Nat) => (x.br.getD k br0).v])).br.length)) key ∧
      plc (List.map (fun (k : Nat) => decBr ((decNd (V.agg [V.sb x.leaf, V.ro false x.en.length (2 : Nat) fun (k : Nat) => (x.en.getD k en0).v, V.ro false x.br.length (2 : Nat) fun (k : Nat) => (x.br.getD k br0).v])).br.getD k br0).v) (List.range (decNd (V.agg [V.sb x.leaf, V.ro false x.en.length (2 : Nat) fun (k : Nat) => (x.en.getD k en0).v, V.ro false x.br.length (2 : Nat) fun (k : Nat) => (x.br.getD k br0).v])).br.length)) key < (↑(decNd (V.agg [V.sb x.leaf, V.ro false x.en.length (2 : Nat) fun (k : Nat) => (x.en.getD k en0).v, V.ro false x.br.length (2 : Nat) fun (k : Nat) => (x.br.getD k br0).v])).br.length : Int)) ∧
      ((Op.bytesLess ((decNd (V.agg [V.sb x.leaf, V.ro false x.en.length (2 : Nat) fun (k : Nat) => (x.en.getD k en0).v, V.ro false x.br.length (2 : Nat) fun (k : Nat) => (x.br.getD k br0).v])).br.getD (plc (List.map (fun (k : Nat) => decBr ((decNd (V.agg [V.sb x.leaf, V.ro false x.en.length (2 : Nat) fun (k : Nat) => (x.en.getD k en0).v, V.ro false x.br.length (2 : Nat) fun (k : Nat) => (x.br.getD k br0).v])).br.getD k br0).v) (List.range (decNd (V.agg [V.sb x.leaf, V.ro false x.en.length (2 : Nat) fun (k : Nat) => (x.en.getD k en0).v, V.ro false x.br.length (2 : Nat) fun (k : Nat) => (x.br.getD k br0).v])).br.length)) key).toNat br0).key key || decide (((decNd (V.agg [V.sb x.leaf, V.ro false x.en.length (2 : Nat) fun (k : Nat) => (x.en.getD k en0).v, V.ro false x.br.length (2 : Nat) fun (k : Nat) => (x.br.getD k br0).v])).br.getD (plc (List.map (fun (k : Nat) => decBr ((decNd (V.agg [V.sb x.leaf, V.ro false x.en.length (2 : Nat) fun (k : Nat) => (x.en.getD k en0).v, V.ro false x.br.length (2 : Nat) fun (k : Nat) => (x.br.getD k br0).v])).br.getD k br0).v) (List.range (decNd (V.agg [V.sb x.leaf, V.ro false x.en.length (2 : Nat) fun (k : Nat) => (x.en.getD k en0).v, V.ro false x.br.length (2 : Nat) fun (k : Nat) => (x.br.getD k br0).v])).br.length)) key).toNat br0).key = key)) = true →
      (decide (IntKind.i64.wrap (plc (List.map (fun (k : Nat) => decBr ((decNd (V.agg [V.sb x.leaf, V.ro false x.en.length (2 : Nat) fun (k : Nat) => (x.en.getD k en0).v, V.ro false x.br.length (2 : Nat) fun (k : Nat) => (x.br.getD k br0).v])).br.getD k br0).v) (List.range (decNd (V.agg [V.sb x.leaf, V.ro false x.en.length (2 : Nat) fun (k : Nat) => (x.en.getD k en0).v, V.ro false x.br.length (2 : Nat) fun (k : Nat) => (x.br.getD k br0).v])).br.length)) key + (1 : Int)) = (↑(decNd (V.agg [V.sb x.leaf, V.ro false x.en.length (2 : Nat) fun (k : Nat) => (x.en.getD k en0).v, V.ro false x.br.length (2 : Nat) fun (k : Nat) => (x.br.getD k br0).v])).br.length : Int)) = true → true = true) ∧ (decide (IntKind.i64.wrap (plc (List.map (fun (k : Nat) => decBr ((decNd (V.agg [V.sb x.leaf, V.ro false x.en.length (2 : Nat) fun (k : Nat) => (x.en.getD k en0).v, V.ro false x.br.length (2 : Nat) fun (k : Nat) => (x.br.getD k br0).v])).br.getD k br0).v) (List.range (decNd (V.agg [V.sb x.leaf, V.ro false x.en.length (2 : Nat) fun (k : Nat) => (x.en.getD k en0).v, V.ro false x.br.length (2 : Nat) fun (k : Nat) => (x.br.getD k br0).v])).br.length)) key + (1 : Int)) = (↑(decNd (V.agg [V.sb x.leaf, V.ro false x.en.length (2 : Nat) fun (k : Nat) => (x.en.getD k en0).v, V.ro false x.br.length (2 : Nat) fun (k : Nat) => (x.br.getD k br0).v])).br.length : Int)) = false →
      ((0 : Int) ≤ IntKind.i64.wrap (plc (List.map (fun (k : Nat) => decBr ((decNd (V.agg [V.sb x.leaf, V.ro false x.en.length (2 : Nat) fun (k : Nat) => (x.en.getD k en0).v, V.ro false x.br.length (2 : Nat) fun (k : Nat) => (x.br.getD k br0).v])).br.getD k br0).v) (List.range (decNd (V.agg [V.sb x.leaf, V.ro false x.en.length (2 : Nat) fun (k : Nat) => (x.en.getD k en0).v, V.ro false x.br.length (2 : Nat) fun (k : Nat) => (x.br.getD k br0).v])).br.length)) key + (1 : Int)) ∧ IntKind.i64.wrap (plc (List.map (fun (k : Nat) => decBr ((decNd (V.agg [V.sb x.leaf, V.ro false x.en.length (2 : Nat) fun (k : Nat) => (x.en.getD k en0).v, V.ro false x.br.length (2 : Nat) fun (k : Nat) => (x.br.getD k br0).v])).br.getD k br0).v) (List.range (decNd (V.agg [V.sb x.leaf, V.ro false x.en.length (2 : Nat) fun (k : Nat) => (x.en.getD k en0).v, V.ro false x.br.length (2 : Nat) fun (k : Nat) => (x.br.getD k br0).v])).br.length)) key + (1 : Int)) < (↑(decNd (V.agg [V.sb x.leaf, V.ro false x.en.length (2 : Nat) fun (k : Nat) => (x.en.getD k en0).v, V.ro false x.br.length (2 : Nat) fun (k : Nat) => (x.br.getD k br0).v])).br.length : Int)) ∧
      (!(Op.bytesLess ((decNd (V.agg [V.sb x.leaf, V.ro false x.en.length (2 : Nat) fun (k : Nat) => (x.en.getD k en0).v, V.ro false x.br.length (2 : Nat) fun (k : Nat) => (x.br.getD k br0).v])).br.getD (IntKind.i64.wrap (plc (List.map (fun (k : Nat) => decBr ((decNd (V.agg [V.sb x.leaf, V.ro false x.en.length (2 : Nat) fun (k : Nat) => (x.en.getD k en0).v, V.ro false x.br.length (2 : Nat) fun (k : Nat) => (x.br.getD k br0).v])).br.getD k br0).v) (List.range (decNd (V.agg [V.sb x.leaf, V.ro false x.en.length (2 : Nat) fun (k : Nat) => (x.en.getD k en0).v, V.ro false x.br.length (2 : Nat) fun (k : Nat) => (x.br.getD k br0).v])).br.length)) key + (1 : Int))).toNat br0).key key || decide (((decNd (V.agg [V.sb x.leaf, V.ro false x.en.length (2 : Nat) fun (k : Nat) => (x.en.getD k en0).v, V.ro false x.br.length (2 : Nat) fun (k : Nat) => (x.br.getD k br0).v])).br.getD (IntKind.i64.wrap (plc (List.map (fun (k : Nat) => decBr ((decNd (V.agg [V.sb x.leaf, V.ro false x.en.length (2 : Nat) fun (k : Nat) => (x.en.getD k en0).v, V.ro false x.br.length (2 : Nat) fun (k : Nat) => (x.br.getD k br0).v])).br.getD k br0).v) (List.range (decNd (V.agg [V.sb x.leaf, V.ro false x.en.length (2 : Nat) fun (k : Nat) => (x.en.getD k en0).v, V.ro false x.br.length (2 : Nat) fun (k : Nat) => (x.br.getD k br0).v])).br.length)) key + (1 : Int))).toNat br0).key = key))) = true)) ∧
      ((Op.bytesLess ((decNd (V.agg [V.sb x.leaf, V.ro false x.en.length (2 : Nat) fun (k : Nat) => (x.en.getD k en0).v, V.ro false x.br.length (2 : Nat) fun (k : Nat) => (x.br.getD k br0).v])).br.getD (plc (List.map (fun (k : Nat) => decBr ((decNd (V.agg [V.sb x.leaf, V.ro false x.en.length (2 : Nat) fun (k : Nat) => (x.en.getD k en0).v, V.ro false x.br.length (2 : Nat) fun (k : Nat) => (x.br.getD k br0).v])).br.getD k br0).v) (List.range (decNd (V.agg [V.sb x.leaf, V.ro false x.en.length (2 : Nat) fun (k : Nat) => (x.en.getD k en0).v, V.ro false x.br.length (2 : Nat) fun (k : Nat) => (x.br.getD k br0).v])).br.length)) key).toNat br0).key key || decide (((decNd (V.agg [V.sb x.leaf, V.ro false x.en.length (2 : Nat) fun (k : Nat) => (x.en.getD k en0).v, V.ro false x.br.length (2 : Nat) fun (k : Nat) => (x.br.getD k br0).v])).br.getD (plc (List.map (fun (k : Nat) => decBr ((decNd (V.agg [V.sb x.leaf, V.ro false x.en.length (2 : Nat) fun (k : Nat) => (x.en.getD k en0).v, V.ro false x.br.length (2 : Nat) fun (k : Nat) => (x.br.getD k br0).v])).br.getD k br0).v) (List.range (decNd (V.agg [V.sb x.leaf, V.ro false x.en.length (2 : Nat) fun (k : Nat) => (x.en.getD k en0).v, V.ro false x.br.length (2 : Nat) fun (k : Nat) => (x.br.getD k br0).v])).br.length)) key).toNat br0).key = key)) = false → false = true)))))))))) →
    vcF Try.prog St.none (specs es_law) [] (noAnn) Try.f3 [x.v, .ss key] (.sb true) := fun h => Eq.mpr (by kernel_rfl) h
set_option maxRecDepth 100000 in
theorem law_ct (x : Nd) (key : List UInt8)  : Ct Try.prog St.none 3 [x.v, .ss key] (.sb true) := Ct.of_vcF (specs_ok es_law_ok) Try.func3 (by kernel_rfl) (law_vc x key (by
  simp only [true_and, and_true, eq_self, implies_true, and_self, Int.toNat_natCast, decNd_agg, decEn_agg, decBr_agg, decEn_v, decBr_v, map_getD]
  intro g1 g2 _
  have hE : x.en.length ≤ 200 := by
    have : decide (200 < (x.en.length : Int)) = false := by
      simp only [lg06, Bool.or_eq_false_iff] at g1; exact g1.1.1.1
    have := of_decide_eq_false this; omega
  have hB : x.br.length ≤ 200 := by
    have : decide (200 < (x.br.length : Int)) = false := by
      simp only [lg06, Bool.or_eq_false_iff] at g1; exact g1.1.1.2
    have := of_decide_eq_false this; omega
  have q : (x.en.length ≤ 4000000000000 ∧ x.br.length ≤ 4000000000000) := ⟨by omega, by omega⟩
  have z : smB [] ∧ decide (plc [] key = 0) = true := ⟨⟨Nat.zero_le _⟩, decide_eq_true (plc_nil key)⟩
  refine ⟨q, q, fun _ => z, fun hm => ⟨fun _ => z, fun hz => ⟨⟨q.2⟩, ?_⟩⟩⟩
  have hm : mayN x = true := by simpa using hm
  have hz : x.br.length ≠ 0 := by have := of_decide_eq_false hz; omega
  obtain ⟨p, hp, hn, hlo, hhi⟩ := place_spec (key := key) hz (may_rises hm hz)
  have w := wr1 hn q.2
  rw [hp, w]
  simp only [Int.toNat_natCast]
  have next : decide (((p + 1 : Nat) : Int) = (x.br.length : Int)) = false → (0 ≤ ((p + 1 : Nat) : Int) ∧ ((p + 1 : Nat) : Int) < (x.br.length : Int)) ∧ gtB x.br key (p + 1) = true := fun d => by
    have d := of_decide_eq_false d
    exact ⟨⟨nn _, by omega⟩, hhi (by omega)⟩
  refine ⟨fun c => absurd (of_decide_eq_true c) (by omega), fun _ => ⟨fun c => absurd (of_decide_eq_true c) (by omega), fun _ => ⟨fun c => fun d => next d, fun c => ⟨⟨nn p, Int.ofNat_lt.2 hn⟩, fun _ d => next d, fun e => ?_⟩⟩⟩⟩
  have c := of_decide_eq_false c
  have := hlo (by omega)
  unfold gtB at this; rw [e] at this; cases this))
end Go.Proofs.Ytepkbpdldghjnaa
