/-
  Package leaf: which nodes may be, sizes, bodies; and the law LeafBack (under way).
-/
import Derived.Test.YtgdphlmbpjjfjaaSr
import Derived.Test.YtgdphlmbpjjfjaaProg
import Derived.Test.YtgdphlmbpjjfjaaSe
set_option linter.unusedVariables false
set_option linter.unusedSimpArgs false
noncomputable section
namespace Go.Proofs.Ytgdphlmbpjjfjaa
open Go Go.RowKit Go.Proofs Go.Proofs.Ytgdphlmbpjjfjaa.Sv
structure En where
  key : List UInt8
  val : List UInt8
def En.v (x : En) : V := .agg [.ss x.key, .ss x.val]
def en0 : En := ⟨[], []⟩
structure Br where
  key : List UInt8
  page : Int
def Br.v (x : Br) : V := .agg [.ss x.key, .si .i64 x.page]
def br0 : Br := ⟨[], 0⟩
structure Nd where
  leaf : Bool
  en : List En
  br : List Br
def lE (L : List En) : V := .ro false L.length 2 (fun k => (L.getD k en0).v)
def lB (L : List Br) : V := .ro false L.length 2 (fun k => (L.getD k br0).v)
def Nd.v (x : Nd) : V := .agg [.sb x.leaf, lE x.en, lB x.br]
theorem ofFz_ren (fz : Nat → Nat → Option Value) : (Sg.ofFz fz).ren (fun _ => none) = Sg.ofFz fz := rfl
/-- whatever can be told by its parts -/
def tD {α : Type} (dec : V → α) (of : α → V) : TyC α where
  to v := some (some (leV (fun _ => none) v (of (dec v))), dec v)
  of := of
  ok v p a h hp fz z r := by
    cases h
    exact leV_sound _ _ _ (Sg.ofFz fz) _ (hp _ rfl) r
def sS (v : V) : List UInt8 := match v.asS with | some l => l | none => []
def sB (v : V) : Bool := match v.asB with | some b => b | none => false
def sI (v : V) : Int := match v.asI with | some (_, n) => n | none => 0
def decEn (v : V) : En := match v with | .agg [a, b] => ⟨sS a, sS b⟩ | _ => en0
def decBr (v : V) : Br := match v with | .agg [a, b] => ⟨sS a, sI b⟩ | _ => br0
def decLE (v : V) : List En := match v with
  | .ro _ n _ es => (List.range n).map fun k => decEn (es k)
  | _ => []
def decLB (v : V) : List Br := match v with
  | .ro _ n _ es => (List.range n).map fun k => decBr (es k)
  | _ => []
theorem decLE_v (L : List En) : decLE (lE L) = L := map_dec L en0 (fun x => x) fun _ => rfl
theorem decLB_v (L : List Br) : decLB (lB L) = L := map_dec L br0 (fun x => x) fun _ => rfl
def decNd (v : V) : Nd := match v with | .agg [a, b, c] => ⟨sB a, decLE b, decLB c⟩ | _ => ⟨false, [], []⟩
theorem decNd_v (x : Nd) : decNd x.v = x := by
  show Nd.mk x.leaf (decLE (lE x.en)) (decLB (lB x.br)) = x
  rw [decLE_v, decLB_v]
theorem decNd_agg (a : Bool) (L : List En) (M : List Br) : decNd (.agg [.sb a, .ro false L.length 2 (fun k => (L.getD k en0).v), .ro false M.length 2 (fun k => (M.getD k br0).v)]) = ⟨a, L, M⟩ := decNd_v ⟨a, L, M⟩
theorem decLB_ro (L : List Br) : decLB (.ro false L.length 2 (fun k => (L.getD k br0).v)) = L := decLB_v L
theorem decEn_v (x : En) : decEn x.v = x := rfl
theorem decBr_v (x : Br) : decBr x.v = x := rfl
theorem decEn_agg (a b : List UInt8) : decEn (.agg [.ss a, .ss b]) = ⟨a, b⟩ := rfl
theorem decBr_agg (a : List UInt8) (b : Int) : decBr (.agg [.ss a, .si .i64 b]) = ⟨a, b⟩ := rfl
theorem map_getD {α : Type} (L : List α) (d : α) : ((List.range L.length).map fun k => L.getD k d) = L := map_dec L d (fun x => x) fun _ => rfl
theorem all_succ (f : Nat → Bool) (a : Nat) : (List.range (a + 1)).all f = ((List.range a).all f && f a) := by
  rw [List.range_succ, List.all_append]; simp
theorem all_false {f : Nat → Bool} {a n : Nat} (h : a < n) (hf : f a = false) : (List.range n).all f = false := by
  rw [Bool.eq_false_iff]; intro h2
  have := List.all_eq_true.1 h2 a (List.mem_range.2 h)
  rw [hf] at this; cases this
theorem wr1 {a n : Nat} (h : a < n) (hn : n ≤ 4000000000000) : IntKind.i64.wrap ((a : Int) + 1) = ((a + 1 : Nat) : Int) := by
  rw [wrap_i64 (by unfold I64; omega)]; rfl
theorem nn (k : Nat) : (0 : Int) ≤ (k : Int) := Int.natCast_nonneg k
noncomputable def es_entries : List Ent := []
theorem es_entries_ok : EntsOk Try.prog St.none es_entries := trivial
set_option maxRecDepth 100000 in
theorem entries_vc (L : List En) :
    ((∃ (a : Nat), a.le L.length ∧ True ∧ ((True ∧ L.length = L.length ∧ True ∧ ∀ (i : Nat), i < L.length → (L.getD i en0).key = (L.getD i en0).key ∧ (L.getD i en0).val = (L.getD i en0).val ∧ True) ∧ a = (0 : Nat) ∧ True ∧ (0 : Int) = (↑a : Int)) ∧ True) ∧ ∀ (a : Nat), a.le L.length → (decide ((↑a : Int) < (↑L.length : Int)) = true → ((0 : Int) ≤ (↑a : Int) ∧ (↑a : Int) < (↑L.length : Int)) ∧ (totN [some a] + totN (List.replicate (1 : Nat) none)) * nat_lit 32 ≤ (140737488355328 : Nat) ∧ ∃ (a' : Nat), a'.le L.length ∧ L.length - a' < L.length - a ∧ True ∧ ((True ∧ L.length = L.length ∧ True ∧ ∀ (i : Nat), i < L.length → (L.getD i en0).key = (L.getD i en0).key ∧ (L.getD i en0).val = (L.getD i en0).val ∧ True) ∧ (a + (1 : Nat) = a' ∧ (∀ (k : Nat), k < a → (L.getD k en0).key = (L.getD k en0).key ∧ (L.getD k en0).val = (L.getD k en0).val ∧ True) ∧ ((L.getD (↑a : Int).toNat en0).key = (L.getD a en0).key ∧ (L.getD (↑a : Int).toNat en0).val = (L.getD a en0).val ∧ True) ∧ True) ∧ True ∧ IntKind.i64.wrap ((↑a : Int) + (1 : Int)) = (↑a' : Int)) ∧ True) ∧ (decide ((↑a : Int) < (↑L.length : Int)) = false → True ∧ a = L.length ∧ True ∧ ∀ (i : Nat), i < L.length → (L.getD i en0).key = (L.getD i en0).key ∧ (L.getD i en0).val = (L.getD i en0).val ∧ True)) →
    vcF Try.prog St.none (specs es_entries) [] (({ loops := loopsAt [(3, { α := Nat, inv := fun i fm st => ({ fm with tm := (fm.tm.set 4 (some (.si .i64 (i : Int)))).set 3 (some (.acc st.next 2 [some i] (fun _ k => (L.getD k en0).v))) }, st.add .tip), pre := fun i => i ≤ L.length, mu := fun i => L.length - i })] } : Ann)) Try.f14 [lE L] (lE L) := fun h => Eq.mpr (by kernel_rfl) h
set_option maxRecDepth 100000 in
theorem entries_ct (L : List En) (hL : L.length ≤ 4000000000000) : Ct Try.prog St.none 14 [lE L] (lE L) := Ct.of_vcF (specs_ok es_entries_ok) Try.func14 (by kernel_rfl) (entries_vc L (by
  simp only [true_and, and_true, eq_self, implies_true, and_self, Int.toNat_natCast]
  refine ⟨⟨0, Nat.zero_le _, rfl, rfl⟩, fun a ha => ⟨fun h => ?_, fun h => ?_⟩⟩
  · have hlt : a < L.length := by have := of_decide_eq_true h; omega
    refine ⟨⟨nn a, Int.ofNat_lt.2 hlt⟩, ?_, a + 1, hlt, by omega, rfl, wr1 hlt hL⟩
    simp only [totN, segN, totN_replicate]; omega
  · have : a = L.length := by have := of_decide_eq_false h; have ha : a ≤ L.length := ha; omega
    subst this
    first | rfl | exact ⟨rfl, fun i hi => rfl⟩ | trivial))
noncomputable def e_entries : Ent := entC1 14 (tL 2 decEn En.v en0) (fun L => L.length ≤ 4000000000000) (fun L => lE L)
theorem entries_ok : e_entries.ok Try.prog St.none := entC1_ok fun L h => entries_ct L h
noncomputable def es_branches : List Ent := []
theorem es_branches_ok : EntsOk Try.prog St.none es_branches := trivial
set_option maxRecDepth 100000 in
theorem branches_vc (L : List Br) :
    ((∃ (a : Nat), a.le L.length ∧ True ∧ ((True ∧ L.length = L.length ∧ True ∧ ∀ (i : Nat), i < L.length → (L.getD i br0).key = (L.getD i br0).key ∧ (L.getD i br0).page = (L.getD i br0).page ∧ True) ∧ a = (0 : Nat) ∧ True ∧ (0 : Int) = (↑a : Int)) ∧ True) ∧ ∀ (a : Nat), a.le L.length → (decide ((↑a : Int) < (↑L.length : Int)) = true → ((0 : Int) ≤ (↑a : Int) ∧ (↑a : Int) < (↑L.length : Int)) ∧ (totN [some a] + totN (List.replicate (1 : Nat) none)) * nat_lit 24 ≤ (140737488355328 : Nat) ∧ ∃ (a' : Nat), a'.le L.length ∧ L.length - a' < L.length - a ∧ True ∧ ((True ∧ L.length = L.length ∧ True ∧ ∀ (i : Nat), i < L.length → (L.getD i br0).key = (L.getD i br0).key ∧ (L.getD i br0).page = (L.getD i br0).page ∧ True) ∧ (a + (1 : Nat) = a' ∧ (∀ (k : Nat), k < a → (L.getD k br0).key = (L.getD k br0).key ∧ (L.getD k br0).page = (L.getD k br0).page ∧ True) ∧ ((L.getD (↑a : Int).toNat br0).key = (L.getD a br0).key ∧ (L.getD (↑a : Int).toNat br0).page = (L.getD a br0).page ∧ True) ∧ True) ∧ True ∧ IntKind.i64.wrap ((↑a : Int) + (1 : Int)) = (↑a' : Int)) ∧ True) ∧ (decide ((↑a : Int) < (↑L.length : Int)) = false → True ∧ a = L.length ∧ True ∧ ∀ (i : Nat), i < L.length → (L.getD i br0).key = (L.getD i br0).key ∧ (L.getD i br0).page = (L.getD i br0).page ∧ True)) →
    vcF Try.prog St.none (specs es_branches) [] (({ loops := loopsAt [(3, { α := Nat, inv := fun i fm st => ({ fm with tm := (fm.tm.set 4 (some (.si .i64 (i : Int)))).set 3 (some (.acc st.next 2 [some i] (fun _ k => (L.getD k br0).v))) }, st.add .tip), pre := fun i => i ≤ L.length, mu := fun i => L.length - i })] } : Ann)) Try.f15 [lB L] (lB L) := fun h => Eq.mpr (by kernel_rfl) h
set_option maxRecDepth 100000 in
theorem branches_ct (L : List Br) (hL : L.length ≤ 4000000000000) : Ct Try.prog St.none 15 [lB L] (lB L) := Ct.of_vcF (specs_ok es_branches_ok) Try.func15 (by kernel_rfl) (branches_vc L (by
  simp only [true_and, and_true, eq_self, implies_true, and_self, Int.toNat_natCast]
  refine ⟨⟨0, Nat.zero_le _, rfl, rfl⟩, fun a ha => ⟨fun h => ?_, fun h => ?_⟩⟩
  · have hlt : a < L.length := by have := of_decide_eq_true h; omega
    refine ⟨⟨nn a, Int.ofNat_lt.2 hlt⟩, ?_, a + 1, hlt, by omega, rfl, wr1 hlt hL⟩
    simp only [totN, segN, totN_replicate]; omega
  · have : a = L.length := by have := of_decide_eq_false h; have ha : a ≤ L.length := ha; omega
    subst this
    first | rfl | exact ⟨rfl, fun i hi => rfl⟩ | trivial))
noncomputable def e_branches : Ent := entC1 15 (tL 2 decBr Br.v br0) (fun L => L.length ≤ 4000000000000) (fun L => lB L)
theorem branches_ok : e_branches.ok Try.prog St.none := entC1_ok fun L h => branches_ct L h
noncomputable def es_given : List Ent := [e_entries, e_branches]
theorem es_given_ok : EntsOk Try.prog St.none es_given := ⟨entries_ok, branches_ok, trivial⟩
set_option maxRecDepth 100000 in
theorem given_vc (x : Nd) :
    (((∀ (k : Nat), k < x.en.length → (x.en.getD k en0).key = (decEn (x.en.getD k en0).v).key ∧ (x.en.getD k en0).val = (decEn (x.en.getD k en0).v).val ∧ True) ∧ (List.map (fun (k : Nat) => decEn (x.en.getD k en0).v) (List.range x.en.length)).length ≤ (4000000000000 : Nat)) ∧ ((∀ (k : Nat), k < x.br.length → (x.br.getD k br0).key = (decBr (x.br.getD k br0).v).key ∧ (x.br.getD k br0).page = (decBr (x.br.getD k br0).v).page ∧ True) ∧ (List.map (fun (k : Nat) => decBr (x.br.getD k br0).v) (List.range x.br.length)).length ≤ (4000000000000 : Nat)) ∧ x.leaf = x.leaf ∧ (True ∧ (List.map (fun (k : Nat) => decEn (x.en.getD k en0).v) (List.range x.en.length)).length = x.en.length ∧ True ∧ ∀ (i : Nat), i < x.en.length → ((List.map (fun (k : Nat) => decEn (x.en.getD k en0).v) (List.range x.en.length)).getD i en0).key = (x.en.getD i en0).key ∧ ((List.map (fun (k : Nat) => decEn (x.en.getD k en0).v) (List.range x.en.length)).getD i en0).val = (x.en.getD i en0).val ∧ True) ∧ (True ∧ (List.map (fun (k : Nat) => decBr (x.br.getD k br0).v) (List.range x.br.length)).length = x.br.length ∧ True ∧ ∀ (i : Nat), i < x.br.length → ((List.map (fun (k : Nat) => decBr (x.br.getD k br0).v) (List.range x.br.length)).getD i br0).key = (x.br.getD i br0).key ∧ ((List.map (fun (k : Nat) => decBr (x.br.getD k br0).v) (List.range x.br.length)).getD i br0).page = (x.br.getD i br0).page ∧ True) ∧ True) →
    vcF Try.prog St.none (specs es_given) [] (noAnn) Try.f6 [x.v] (x.v) := fun h => Eq.mpr (by kernel_rfl) h
set_option maxRecDepth 100000 in
theorem given_ct (x : Nd) (h1 : x.en.length ≤ 4000000000000) (h2 : x.br.length ≤ 4000000000000) : Ct Try.prog St.none 6 [x.v] (x.v) := Ct.of_vcF (specs_ok es_given_ok) Try.func6 (by kernel_rfl) (given_vc x (by
  simp only [decEn_agg, decBr_agg, decEn_v, decBr_v, map_getD, true_and, and_true, eq_self, implies_true, and_self]
  first | exact ⟨h1, h2⟩ | simp [h1, h2]))
noncomputable def e_given : Ent := entC1 6 (tD decNd Nd.v) (fun x => x.en.length ≤ 4000000000000 ∧ x.br.length ≤ 4000000000000) (fun x => x.v)
theorem given_ok : e_given.ok Try.prog St.none := entC1_ok fun x h => given_ct x h.1 h.2
def okE (L : List En) (i : Nat) : Bool := decide (1 ≤ ((L.getD i en0).key.length : Int)) && decide (((L.getD i en0).key.length : Int) ≤ 24) && decide (((L.getD i en0).val.length : Int) ≤ 100) && (decide (i = 0) || Op.bytesLess (L.getD (i - 1) en0).key (L.getD i en0).key)
def okB (L : List Br) (i : Nat) : Bool := decide (((L.getD i br0).key.length : Int) ≤ 24) && decide (2 ≤ (L.getD i br0).page) && decide ((L.getD i br0).page < 1024) && (decide (i = 0) || Op.bytesLess (L.getD (i - 1) br0).key (L.getD i br0).key)
noncomputable def es_mayE : List Ent := []
theorem es_mayE_ok : EntsOk Try.prog St.none es_mayE := trivial
set_option maxRecDepth 100000 in
theorem mayE_vc (L : List En) :
    ((∃ (a : Nat), (a ≤ L.length ∧ (List.range a).all (okE L) = true) ∧ True ∧ ((True ∧ L.length = L.length ∧ True ∧ ∀ (i : Nat), i < L.length → (L.getD i en0).key = (L.getD i en0).key ∧ (L.getD i en0).val = (L.getD i en0).val ∧ True) ∧ (0 : Int) = (↑a : Int) ∧ (True ∧ L.length = L.length ∧ True ∧ ∀ (i : Nat), i < L.length → (L.getD i en0).key = (L.getD i en0).key ∧ (L.getD i en0).val = (L.getD i en0).val ∧ True) ∧ (↑L.length : Int) = (↑L.length : Int)) ∧ True) ∧ ∀ (a : Nat), a ≤ L.length ∧ (List.range a).all (okE L) = true → (decide ((↑a : Int) < (↑L.length : Int)) = true → ((0 : Int) ≤ (↑a : Int) ∧ (↑a : Int) < (↑L.length : Int)) ∧ (decide ((↑(L.getD (↑a : Int).toNat en0).key.length : Int) < (1 : Int)) = true → false = (List.range L.length).all (okE L)) ∧ (decide ((↑(L.getD (↑a : Int).toNat en0).key.length : Int) < (1 : Int)) = false → (decide ((24 : Int) < (↑(L.getD (↑a : Int).toNat en0).key.length : Int)) = true → false = (List.range L.length).all (okE L)) ∧ (decide ((24 : Int) < (↑(L.getD (↑a : Int).toNat en0).key.length : Int)) = false → (decide ((100 : Int) < (↑(L.getD (↑a : Int).toNat en0).val.length : Int)) = true → false = (List.range L.length).all (okE L)) ∧ (decide ((100 : Int) < (↑(L.getD (↑a : Int).toNat en0).val.length : Int)) = false → (decide ((0 : Int) < (↑a : Int)) = true → ((0 : Int) ≤ IntKind.i64.wrap ((↑a : Int) - (1 : Int)) ∧ IntKind.i64.wrap ((↑a : Int) - (1 : Int)) < (↑L.length : Int)) ∧
      ((!Op.bytesLess (L.getD (IntKind.i64.wrap ((↑a : Int) - (1 : Int))).toNat en0).key (L.getD (↑a : Int).toNat en0).key) = true → false = (List.range L.length).all (okE L)) ∧ ((!Op.bytesLess (L.getD (IntKind.i64.wrap ((↑a : Int) - (1 : Int))).toNat en0).key (L.getD (↑a : Int).toNat en0).key) = false → ∃ (a' : Nat), (a' ≤ L.length ∧ (List.range a').all (okE L) = true) ∧ L.length - a' < L.length - a ∧ True ∧ ((True ∧ L.length = L.length ∧ True ∧ ∀ (i : Nat), i < L.length → (L.getD i en0).key = (L.getD i en0).key ∧ (L.getD i en0).val = (L.getD i en0).val ∧ True) ∧ IntKind.i64.wrap ((↑a : Int) + (1 : Int)) = (↑a' : Int) ∧ (True ∧ L.length = L.length ∧ True ∧ ∀ (i : Nat), i < L.length → (L.getD i en0).key = (L.getD i en0).key ∧ (L.getD i en0).val = (L.getD i en0).val ∧ True) ∧ (↑L.length : Int) = (↑L.length : Int)) ∧ True)) ∧ (decide ((0 : Int) < (↑a : Int)) = false → ∃ (a' : Nat), (a' ≤ L.length ∧ (List.range a').all (okE L) = true) ∧ L.length - a' < L.length - a ∧ True ∧ ((True ∧ L.length = L.length ∧ True ∧ ∀ (i : Nat), i < L.length → (L.getD i en0).key = (L.getD i en0).key ∧ (L.getD i en0).val = (L.getD i en0).val ∧ True) ∧ IntKind.i64.wrap ((↑a : Int) + (1 : Int)) = (↑a' : Int) ∧ (True ∧ L.length = L.length ∧ True ∧ ∀ (i : Nat), i < L.length → (L.getD i en0).key = (L.getD i en0).key ∧ (L.getD i en0).val = (L.getD i en0).val ∧ True) ∧ (↑L.length : Int) = (↑L.length : Int)) ∧ True))))) ∧ (decide ((↑a : Int) < (↑L.length : Int)) = false → true = (List.range L.length).all (okE L))) →
    vcF Try.prog St.none (specs es_mayE) [] (({ loops := loopsAt [(2, { α := Nat, inv := fun i fm st => ({ fm with tm := fm.tm.set 7 (some (.si .i64 (i : Int))) }, st), pre := fun i => i ≤ L.length ∧ (List.range i).all (okE L) = true, mu := fun i => L.length - i })] } : Ann)) Try.f24 [lE L] (.sb ((List.range L.length).all (okE L))) := fun h => Eq.mpr (by kernel_rfl) h
set_option maxRecDepth 100000 in
theorem mayE_ct (L : List En) (hL : L.length ≤ 4000000000000) : Ct Try.prog St.none 24 [lE L] (.sb ((List.range L.length).all (okE L))) := Ct.of_vcF (specs_ok es_mayE_ok) Try.func24 (by kernel_rfl) (mayE_vc L (by
  simp only [true_and, and_true, eq_self, implies_true, and_self, Int.toNat_natCast]
  refine ⟨⟨0, ⟨Nat.zero_le _, rfl⟩, rfl⟩, fun a ha => ?_⟩
  obtain ⟨ha, hall⟩ := ha
  have ha : a ≤ L.length := ha
  by_cases h : a < L.length
  · have hi := Int.ofNat_lt.2 h
    have hw := wr1 h hL
    have w1 : 0 < a → IntKind.i64.wrap ((a : Int) - 1) = ((a - 1 : Nat) : Int) := fun h0 => by
      rw [wrap_i64 (by unfold I64; omega)]; omega
    have no : okE L a = false → (List.range L.length).all (okE L) = false := fun hf => all_false h hf
    have yes : okE L a = true → ∃ a', (a' ≤ L.length ∧ (List.range a').all (okE L) = true) ∧ L.length - a' < L.length - a ∧ IntKind.i64.wrap ((a : Int) + 1) = ((a' : Nat) : Int) := fun hf =>
      ⟨a + 1, ⟨h, by rw [all_succ, hall, hf]; rfl⟩, by omega, hw⟩
    refine ⟨fun _ => ⟨⟨nn a, hi⟩, fun c => (no ?_).symm, fun c1 => ⟨fun c => (no ?_).symm, fun c2 => ⟨fun c => (no ?_).symm, fun c3 => ⟨fun h0 => ?_, fun h0 => yes ?_⟩⟩⟩⟩, fun c => absurd h (by have := of_decide_eq_false c; omega)⟩
    · have e : decide (1 ≤ ((L.getD a en0).key.length : Int)) = false := decide_eq_false (by have := of_decide_eq_true c; omega)
      simp only [okE, e, Bool.false_and]
    · have e : decide (((L.getD a en0).key.length : Int) ≤ 24) = false := decide_eq_false (by have := of_decide_eq_true c; omega)
      simp only [okE, e, Bool.false_and, Bool.and_false]
    · have e : decide (((L.getD a en0).val.length : Int) ≤ 100) = false := decide_eq_false (by have := of_decide_eq_true c; omega)
      simp only [okE, e, Bool.false_and, Bool.and_false]
    · have h0 : 0 < a := by have := of_decide_eq_true h0; omega
      rw [w1 h0]; simp only [Int.toNat_natCast]
      refine ⟨⟨nn _, Int.ofNat_lt.2 (by omega)⟩, fun c => (no ?_).symm, fun c => yes ?_⟩
      · have e : decide (a = 0) = false := decide_eq_false (by omega)
        have e2 : Op.bytesLess (L.getD (a - 1) en0).key (L.getD a en0).key = false := by simpa using c
        simp only [okE, e, e2, Bool.or_false, Bool.and_false]
      · have e2 : Op.bytesLess (L.getD (a - 1) en0).key (L.getD a en0).key = true := by simpa using c
        have e3 : decide (1 ≤ ((L.getD a en0).key.length : Int)) = true := decide_eq_true (by have := of_decide_eq_false c1; omega)
        have e4 : decide (((L.getD a en0).key.length : Int) ≤ 24) = true := decide_eq_true (by have := of_decide_eq_false c2; omega)
        have e5 : decide (((L.getD a en0).val.length : Int) ≤ 100) = true := decide_eq_true (by have := of_decide_eq_false c3; omega)
        simp only [okE, e2, e3, e4, e5, Bool.or_true, Bool.and_true]
    · have e2 : decide (a = 0) = true := decide_eq_true (by have := of_decide_eq_false h0; omega)
      have e3 : decide (1 ≤ ((L.getD a en0).key.length : Int)) = true := decide_eq_true (by have := of_decide_eq_false c1; omega)
      have e4 : decide (((L.getD a en0).key.length : Int) ≤ 24) = true := decide_eq_true (by have := of_decide_eq_false c2; omega)
      have e5 : decide (((L.getD a en0).val.length : Int) ≤ 100) = true := decide_eq_true (by have := of_decide_eq_false c3; omega)
      simp only [okE, e2, e3, e4, e5, Bool.true_or, Bool.and_true]
  · have : a = L.length := by omega
    subst this
    simp [hall]))
noncomputable def e_mayE : Ent := entC1 24 (tL 2 decEn En.v en0) (fun L => L.length ≤ 4000000000000) (fun L => .sb ((List.range L.length).all (okE L)))
theorem mayE_ok : e_mayE.ok Try.prog St.none := entC1_ok fun L h => mayE_ct L h
noncomputable def es_mayB : List Ent := []
theorem es_mayB_ok : EntsOk Try.prog St.none es_mayB := trivial
set_option maxRecDepth 100000 in
theorem mayB_vc (L : List Br) :
    ((∃ (a : Nat), (a ≤ L.length ∧ (List.range a).all (okB L) = true) ∧ True ∧ ((True ∧ L.length = L.length ∧ True ∧ ∀ (i : Nat), i < L.length → (L.getD i br0).key = (L.getD i br0).key ∧ (L.getD i br0).page = (L.getD i br0).page ∧ True) ∧ (0 : Int) = (↑a : Int) ∧ (True ∧ L.length = L.length ∧ True ∧ ∀ (i : Nat), i < L.length → (L.getD i br0).key = (L.getD i br0).key ∧ (L.getD i br0).page = (L.getD i br0).page ∧ True) ∧ (↑L.length : Int) = (↑L.length : Int)) ∧ True) ∧ ∀ (a : Nat), a ≤ L.length ∧ (List.range a).all (okB L) = true → (decide ((↑a : Int) < (↑L.length : Int)) = true → ((0 : Int) ≤ (↑a : Int) ∧ (↑a : Int) < (↑L.length : Int)) ∧ (decide ((24 : Int) < (↑(L.getD (↑a : Int).toNat br0).key.length : Int)) = true → false = (List.range L.length).all (okB L)) ∧ (decide ((24 : Int) < (↑(L.getD (↑a : Int).toNat br0).key.length : Int)) = false → (decide ((L.getD (↑a : Int).toNat br0).page < (2 : Int)) = true → false = (List.range L.length).all (okB L)) ∧ (decide ((L.getD (↑a : Int).toNat br0).page < (2 : Int)) = false → (decide ((1024 : Int) ≤ (L.getD (↑a : Int).toNat br0).page) = true → false = (List.range L.length).all (okB L)) ∧ (decide ((1024 : Int) ≤ (L.getD (↑a : Int).toNat br0).page) = false → (decide ((0 : Int) < (↑a : Int)) = true → ((0 : Int) ≤ IntKind.i64.wrap ((↑a : Int) - (1 : Int)) ∧ IntKind.i64.wrap ((↑a : Int) - (1 : Int)) < (↑L.length : Int)) ∧
      ((!Op.bytesLess (L.getD (IntKind.i64.wrap ((↑a : Int) - (1 : Int))).toNat br0).key (L.getD (↑a : Int).toNat br0).key) = true → false = (List.range L.length).all (okB L)) ∧ ((!Op.bytesLess (L.getD (IntKind.i64.wrap ((↑a : Int) - (1 : Int))).toNat br0).key (L.getD (↑a : Int).toNat br0).key) = false → ∃ (a' : Nat), (a' ≤ L.length ∧ (List.range a').all (okB L) = true) ∧ L.length - a' < L.length - a ∧ True ∧ ((True ∧ L.length = L.length ∧ True ∧ ∀ (i : Nat), i < L.length → (L.getD i br0).key = (L.getD i br0).key ∧ (L.getD i br0).page = (L.getD i br0).page ∧ True) ∧ IntKind.i64.wrap ((↑a : Int) + (1 : Int)) = (↑a' : Int) ∧ (True ∧ L.length = L.length ∧ True ∧ ∀ (i : Nat), i < L.length → (L.getD i br0).key = (L.getD i br0).key ∧ (L.getD i br0).page = (L.getD i br0).page ∧ True) ∧ (↑L.length : Int) = (↑L.length : Int)) ∧ True)) ∧ (decide ((0 : Int) < (↑a : Int)) = false → ∃ (a' : Nat), (a' ≤ L.length ∧ (List.range a').all (okB L) = true) ∧ L.length - a' < L.length - a ∧ True ∧ ((True ∧ L.length = L.length ∧ True ∧ ∀ (i : Nat), i < L.length → (L.getD i br0).key = (L.getD i br0).key ∧ (L.getD i br0).page = (L.getD i br0).page ∧ True) ∧ IntKind.i64.wrap ((↑a : Int) + (1 : Int)) = (↑a' : Int) ∧ (True ∧ L.length = L.length ∧ True ∧ ∀ (i : Nat), i < L.length → (L.getD i br0).key = (L.getD i br0).key ∧ (L.getD i br0).page = (L.getD i br0).page ∧ True) ∧ (↑L.length : Int) = (↑L.length : Int)) ∧ True))))) ∧ (decide ((↑a : Int) < (↑L.length : Int)) = false →
      true = (List.range L.length).all (okB L))) →
    vcF Try.prog St.none (specs es_mayB) [] (({ loops := loopsAt [(2, { α := Nat, inv := fun i fm st => ({ fm with tm := fm.tm.set 7 (some (.si .i64 (i : Int))) }, st), pre := fun i => i ≤ L.length ∧ (List.range i).all (okB L) = true, mu := fun i => L.length - i })] } : Ann)) Try.f25 [lB L] (.sb ((List.range L.length).all (okB L))) := fun h => Eq.mpr (by kernel_rfl) h
set_option maxRecDepth 100000 in
theorem mayB_ct (L : List Br) (hL : L.length ≤ 4000000000000) : Ct Try.prog St.none 25 [lB L] (.sb ((List.range L.length).all (okB L))) := Ct.of_vcF (specs_ok es_mayB_ok) Try.func25 (by kernel_rfl) (mayB_vc L (by
  simp only [true_and, and_true, eq_self, implies_true, and_self, Int.toNat_natCast]
  refine ⟨⟨0, ⟨Nat.zero_le _, rfl⟩, rfl⟩, fun a ha => ?_⟩
  obtain ⟨ha, hall⟩ := ha
  have ha : a ≤ L.length := ha
  by_cases h : a < L.length
  · have hi := Int.ofNat_lt.2 h
    have hw := wr1 h hL
    have w1 : 0 < a → IntKind.i64.wrap ((a : Int) - 1) = ((a - 1 : Nat) : Int) := fun h0 => by
      rw [wrap_i64 (by unfold I64; omega)]; omega
    have no : okB L a = false → (List.range L.length).all (okB L) = false := fun hf => all_false h hf
    have yes : okB L a = true → ∃ a', (a' ≤ L.length ∧ (List.range a').all (okB L) = true) ∧ L.length - a' < L.length - a ∧ IntKind.i64.wrap ((a : Int) + 1) = ((a' : Nat) : Int) := fun hf =>
      ⟨a + 1, ⟨h, by rw [all_succ, hall, hf]; rfl⟩, by omega, hw⟩
    refine ⟨fun _ => ⟨⟨nn a, hi⟩, fun c => (no ?_).symm, fun c1 => ⟨fun c => (no ?_).symm, fun c2 => ⟨fun c => (no ?_).symm, fun c3 => ⟨fun h0 => ?_, fun h0 => yes ?_⟩⟩⟩⟩, fun c => absurd h (by have := of_decide_eq_false c; omega)⟩
    · have e : decide (((L.getD a br0).key.length : Int) ≤ 24) = false := decide_eq_false (by have := of_decide_eq_true c; omega)
      simp only [okB, e, Bool.false_and]
    · have e : decide (2 ≤ (L.getD a br0).page) = false := decide_eq_false (by have := of_decide_eq_true c; omega)
      simp only [okB, e, Bool.false_and, Bool.and_false]
    · have e : decide ((L.getD a br0).page < 1024) = false := decide_eq_false (by have := of_decide_eq_true c; omega)
      simp only [okB, e, Bool.false_and, Bool.and_false]
    · have h0 : 0 < a := by have := of_decide_eq_true h0; omega
      rw [w1 h0]; simp only [Int.toNat_natCast]
      refine ⟨⟨nn _, Int.ofNat_lt.2 (by omega)⟩, fun c => (no ?_).symm, fun c => yes ?_⟩
      · have e : decide (a = 0) = false := decide_eq_false (by omega)
        have e2 : Op.bytesLess (L.getD (a - 1) br0).key (L.getD a br0).key = false := by simpa using c
        simp only [okB, e, e2, Bool.or_false, Bool.and_false]
      · have e2 : Op.bytesLess (L.getD (a - 1) br0).key (L.getD a br0).key = true := by simpa using c
        have e3 : decide (((L.getD a br0).key.length : Int) ≤ 24) = true := decide_eq_true (by have := of_decide_eq_false c1; omega)
        have e4 : decide (2 ≤ (L.getD a br0).page) = true := decide_eq_true (by have := of_decide_eq_false c2; omega)
        have e5 : decide ((L.getD a br0).page < 1024) = true := decide_eq_true (by have := of_decide_eq_false c3; omega)
        simp only [okB, e2, e3, e4, e5, Bool.or_true, Bool.and_true]
    · have e2 : decide (a = 0) = true := decide_eq_true (by have := of_decide_eq_false h0; omega)
      have e3 : decide (((L.getD a br0).key.length : Int) ≤ 24) = true := decide_eq_true (by have := of_decide_eq_false c1; omega)
      have e4 : decide (2 ≤ (L.getD a br0).page) = true := decide_eq_true (by have := of_decide_eq_false c2; omega)
      have e5 : decide ((L.getD a br0).page < 1024) = true := decide_eq_true (by have := of_decide_eq_false c3; omega)
      simp only [okB, e2, e3, e4, e5, Bool.true_or, Bool.and_true]
  · have : a = L.length := by omega
    subst this
    simp [hall]))
noncomputable def e_mayB : Ent := entC1 25 (tL 2 decBr Br.v br0) (fun L => L.length ≤ 4000000000000) (fun L => .sb ((List.range L.length).all (okB L)))
theorem mayB_ok : e_mayB.ok Try.prog St.none := entC1_ok fun L h => mayB_ct L h
def mayN (x : Nd) : Bool := if x.leaf then decide (x.br.length = 0) && (List.range x.en.length).all (okE x.en) else decide (x.en.length = 0) && (List.range x.br.length).all (okB x.br)
noncomputable def es_may : List Ent := [e_mayE, e_mayB]
theorem es_may_ok : EntsOk Try.prog St.none es_may := ⟨mayE_ok, mayB_ok, trivial⟩
set_option maxRecDepth 100000 in
theorem may_vc (x : Nd) :
    ((x.leaf = true → (decide ((↑x.br.length : Int) = (0 : Int)) = true → ((∀ (k : Nat), k < x.en.length → (x.en.getD k en0).key = (decEn (x.en.getD k en0).v).key ∧ (x.en.getD k en0).val = (decEn (x.en.getD k en0).v).val ∧ True) ∧ (List.map (fun (k : Nat) => decEn (x.en.getD k en0).v) (List.range x.en.length)).length ≤ (4000000000000 : Nat)) ∧ (List.range (List.map (fun (k : Nat) => decEn (x.en.getD k en0).v) (List.range x.en.length)).length).all (okE (List.map (fun (k : Nat) => decEn (x.en.getD k en0).v) (List.range x.en.length))) = mayN x) ∧ (decide ((↑x.br.length : Int) = (0 : Int)) = false → false = mayN x)) ∧ (x.leaf = false → (decide ((↑x.en.length : Int) = (0 : Int)) = true → ((∀ (k : Nat), k < x.br.length → (x.br.getD k br0).key = (decBr (x.br.getD k br0).v).key ∧ (x.br.getD k br0).page = (decBr (x.br.getD k br0).v).page ∧ True) ∧ (List.map (fun (k : Nat) => decBr (x.br.getD k br0).v) (List.range x.br.length)).length ≤ (4000000000000 : Nat)) ∧ (List.range (List.map (fun (k : Nat) => decBr (x.br.getD k br0).v) (List.range x.br.length)).length).all (okB (List.map (fun (k : Nat) => decBr (x.br.getD k br0).v) (List.range x.br.length))) = mayN x) ∧ (decide ((↑x.en.length : Int) = (0 : Int)) = false → false = mayN x))) →
    vcF Try.prog St.none (specs es_may) [] (noAnn) Try.f12 [x.v] (.sb (mayN x)) := fun h => Eq.mpr (by kernel_rfl) h
set_option maxRecDepth 100000 in
theorem may_ct (x : Nd) (h1 : x.en.length ≤ 4000000000000) (h2 : x.br.length ≤ 4000000000000) : Ct Try.prog St.none 12 [x.v] (.sb (mayN x)) := Ct.of_vcF (specs_ok es_may_ok) Try.func12 (by kernel_rfl) (may_vc x (by
  simp only [decEn_v, decBr_v, map_getD, true_and, and_true, eq_self, implies_true, and_self, Int.toNat_natCast]
  refine ⟨fun l => ⟨fun c => ⟨h1, ?_⟩, fun c => ?_⟩, fun l => ⟨fun c => ⟨h2, ?_⟩, fun c => ?_⟩⟩
  · have e : decide (x.br.length = 0) = true := decide_eq_true (by have := of_decide_eq_true c; omega)
    rw [mayN, if_pos l, e]; rfl
  · have e : decide (x.br.length = 0) = false := decide_eq_false (by have := of_decide_eq_false c; omega)
    rw [mayN, if_pos l, e]; rfl
  · have e : decide (x.en.length = 0) = true := decide_eq_true (by have := of_decide_eq_true c; omega)
    rw [mayN, if_neg (by rw [l]; decide), e]; rfl
  · have e : decide (x.en.length = 0) = false := decide_eq_false (by have := of_decide_eq_false c; omega)
    rw [mayN, if_neg (by rw [l]; decide), e]; rfl))
noncomputable def e_may : Ent := entC1 12 (tD decNd Nd.v) (fun x => x.en.length ≤ 4000000000000 ∧ x.br.length ≤ 4000000000000) (fun x => .sb (mayN x))
theorem may_ok : e_may.ok Try.prog St.none := entC1_ok fun x h => may_ct x h.1 h.2
/-- a function without captured variables -/
def tF0 (g : FuncId) : TyC Unit where
  to v := match v with
    | .func fn a b => match fn, a, b with
      | .func g', [], [] => match Nat.beq g' g with
        | true => some (none, ())
        | false => none
      | _, _, _ => none
    | _ => none
  of _ := .func (.func g) [] []
  ok v p a h hp fz z r := by
    split at h
    · split at h
      · split at h
        · rename_i hg
          obtain rfl := Nat.eq_of_beq_eq_true hg
          exact r
        · cases h
      · cases h
    · cases h
def eSz (e : En) : Nat := 2 + e.key.length + e.val.length
def bSz (e : Br) : Nat := 3 + e.key.length
structure smE (e : En) : Prop where
  k : e.key.length ≤ 1000
  v : e.val.length ≤ 1000
structure smBr (e : Br) : Prop where
  k : e.key.length ≤ 1000
structure smLE (L : List En) : Prop where
  n : L.length ≤ 1000
  e : ∀ i, smE (L.getD i en0)
structure smLB (L : List Br) : Prop where
  n : L.length ≤ 1000
  e : ∀ i, smBr (L.getD i br0)
def szE (L : List En) : Nat → Nat
  | 0 => 0
  | i + 1 => szE L i + eSz (L.getD i en0)
def szB (L : List Br) : Nat → Nat
  | 0 => 0
  | i + 1 => szB L i + bSz (L.getD i br0)
theorem szE_le {L : List En} (h : smLE L) : ∀ i, szE L i ≤ 2002 * i
  | 0 => Nat.le_refl _
  | i + 1 => by have := szE_le h i; have h1 := (h.e i).k; have h2 := (h.e i).v; simp only [szE, eSz]; omega
theorem szB_le {L : List Br} (h : smLB L) : ∀ i, szB L i ≤ 1003 * i
  | 0 => Nat.le_refl _
  | i + 1 => by have := szB_le h i; have h1 := (h.e i).k; simp only [szB, bSz]; omega
noncomputable def es_esz : List Ent := []
theorem es_esz_ok : EntsOk Try.prog St.none es_esz := trivial
set_option maxRecDepth 100000 in
theorem esz_vc (e : En) :
    (IntKind.i64.wrap (IntKind.i64.wrap (IntKind.i64.wrap ((1 : Int) + (↑e.key.length : Int)) + (1 : Int)) + (↑e.val.length : Int)) = (↑(eSz e) : Int)) →
    vcF Try.prog St.none (specs es_esz) [] (noAnn) Try.f21 [e.v] (.si .i64 (eSz e : Int)) := fun h => Eq.mpr (by kernel_rfl) h
set_option maxRecDepth 100000 in
theorem esz_ct (e : En) (h : smE e) : Ct Try.prog St.none 21 [e.v] (.si .i64 (eSz e : Int)) := Ct.of_vcF (specs_ok es_esz_ok) Try.func21 (by kernel_rfl) (esz_vc e (by
  have h1 := h.k
  have h2 := h.v
  rw [wrap_i64 (n := 1 + (e.key.length : Int)) (by unfold I64; omega), wrap_i64 (n := 1 + (e.key.length : Int) + 1) (by unfold I64; omega), wrap_i64 (by unfold I64; omega)]
  unfold eSz; omega))
noncomputable def e_esz : Ent := entC1 21 (tD decEn En.v) (fun e => smE e) (fun e => .si .i64 (eSz e : Int))
theorem esz_ok : e_esz.ok Try.prog St.none := entC1_ok fun e h => esz_ct e h
noncomputable def es_bsz : List Ent := []
theorem es_bsz_ok : EntsOk Try.prog St.none es_bsz := trivial
set_option maxRecDepth 100000 in
theorem bsz_vc (e : Br) :
    (IntKind.i64.wrap (IntKind.i64.wrap ((1 : Int) + (↑e.key.length : Int)) + (2 : Int)) = (↑(bSz e) : Int)) →
    vcF Try.prog St.none (specs es_bsz) [] (noAnn) Try.f23 [e.v] (.si .i64 (bSz e : Int)) := fun h => Eq.mpr (by kernel_rfl) h
set_option maxRecDepth 100000 in
theorem bsz_ct (e : Br) (h : smBr e) : Ct Try.prog St.none 23 [e.v] (.si .i64 (bSz e : Int)) := Ct.of_vcF (specs_ok es_bsz_ok) Try.func23 (by kernel_rfl) (bsz_vc e (by
  have h1 := h.k
  rw [wrap_i64 (n := 1 + (e.key.length : Int)) (by unfold I64; omega), wrap_i64 (by unfold I64; omega)]
  unfold bSz; omega))
noncomputable def e_bsz : Ent := entC1 23 (tD decBr Br.v) (fun e => smBr e) (fun e => .si .i64 (bSz e : Int))
theorem bsz_ok : e_bsz.ok Try.prog St.none := entC1_ok fun e h => bsz_ct e h
noncomputable def es_sumE : List Ent := [e_esz]
theorem es_sumE_ok : EntsOk Try.prog St.none es_sumE := ⟨esz_ok, trivial⟩
set_option maxRecDepth 100000 in
theorem sumE_vc (L : List En) :
    ((∃ (a : Nat), a.le L.length ∧ True ∧ ((True ∧ True) ∧ (0 : Int) = (↑(szE L a) : Int) ∧ (↑L.length : Int) = (↑L.length : Int) ∧ (0 : Int) = (0 : Int) ∧ (True ∧ L.length = L.length ∧ True ∧ ∀ (i : Nat), i < L.length → (L.getD i en0).key = (L.getD i en0).key ∧ (L.getD i en0).val = (L.getD i en0).val ∧ True) ∧ (0 : Int) = (↑a : Int)) ∧ True) ∧ ∀ (a : Nat), a.le L.length → (decide ((↑a : Int) < (↑L.length : Int)) = true → ((0 : Int) ≤ (↑a : Int) ∧ (↑a : Int) < (↑L.length : Int)) ∧ (((L.getD (↑a : Int).toNat en0).key = (decEn (V.agg [V.ss (L.getD (↑a : Int).toNat en0).key, V.ss (L.getD (↑a : Int).toNat en0).val])).key ∧ (L.getD (↑a : Int).toNat en0).val = (decEn (V.agg [V.ss (L.getD (↑a : Int).toNat en0).key, V.ss (L.getD (↑a : Int).toNat en0).val])).val ∧ True) ∧ smE (decEn (V.agg [V.ss (L.getD (↑a : Int).toNat en0).key, V.ss (L.getD (↑a : Int).toNat en0).val]))) ∧ ∃ (a' : Nat), a'.le L.length ∧ L.length - a' < L.length - a ∧ True ∧ ((True ∧ True) ∧ IntKind.i64.wrap ((↑(szE L a) : Int) + (↑(eSz (decEn (V.agg [V.ss (L.getD (↑a : Int).toNat en0).key, V.ss (L.getD (↑a : Int).toNat en0).val]))) : Int)) = (↑(szE L a') : Int) ∧ (↑L.length : Int) = (↑L.length : Int) ∧ (0 : Int) = (0 : Int) ∧ (True ∧ L.length = L.length ∧ True ∧ ∀ (i : Nat), i < L.length → (L.getD i en0).key = (L.getD i en0).key ∧ (L.getD i en0).val = (L.getD i en0).val ∧ True) ∧ IntKind.i64.wrap ((↑a : Int) + (1 : Int)) = (↑a' : Int)) ∧ True) ∧ (decide ((↑a : Int) < (↑L.length : Int)) = false →
      (↑(szE L a) : Int) = (↑(szE L L.length) : Int))) →
    vcF Try.prog St.none (specs es_sumE) [] (({ loops := loopsAt [(3, { α := Nat, inv := fun i fm st => ({ fm with tm := (fm.tm.set 5 (some (.si .i64 (szE L i : Int)))).set 10 (some (.si .i64 (i : Int))) }, st), pre := fun i => i ≤ L.length, mu := fun i => L.length - i })] } : Ann)) Try.f20 [lE L, .func (.func 21) [] []] (.si .i64 (szE L L.length : Int)) := fun h => Eq.mpr (by kernel_rfl) h
set_option maxRecDepth 100000 in
theorem sumE_ct (L : List En) (h : smLE L) : Ct Try.prog St.none 20 [lE L, .func (.func 21) [] []] (.si .i64 (szE L L.length : Int)) := Ct.of_vcF (specs_ok es_sumE_ok) Try.func20 (by kernel_rfl) (sumE_vc L (by
  simp only [decEn_agg, decEn_v, true_and, and_true, eq_self, implies_true, and_self, Int.toNat_natCast]
  refine ⟨⟨0, Nat.zero_le _, rfl, rfl⟩, fun a ha => ⟨fun c => ?_, fun c => ?_⟩⟩
  · have hlt : a < L.length := by have := of_decide_eq_true c; omega
    have hn := h.n
    have hb := szE_le h (a + 1)
    refine ⟨⟨nn a, Int.ofNat_lt.2 hlt⟩, h.e a, a + 1, hlt, by omega, ?_, wr1 hlt (by omega)⟩
    show IntKind.i64.wrap ((szE L a : Int) + (eSz (L.getD a en0) : Int)) = ((szE L a + eSz (L.getD a en0) : Nat) : Int)
    have e : szE L (a + 1) = szE L a + eSz (L.getD a en0) := rfl
    rw [wrap_i64 (by unfold I64; omega)]; omega
  · have ha : a ≤ L.length := ha
    obtain rfl : a = L.length := by have := of_decide_eq_false c; omega
    rfl))
noncomputable def e_sumE : Ent := entC2 20 (tL 2 decEn En.v en0) (tF0 21) (fun L _ => smLE L) (fun L _ => .si .i64 (szE L L.length : Int))
theorem sumE_ok : e_sumE.ok Try.prog St.none := entC2_ok fun L _ h => sumE_ct L h
noncomputable def es_sumB : List Ent := [e_bsz]
theorem es_sumB_ok : EntsOk Try.prog St.none es_sumB := ⟨bsz_ok, trivial⟩
set_option maxRecDepth 100000 in
theorem sumB_vc (L : List Br) :
    ((∃ (a : Nat), a.le L.length ∧ True ∧ ((True ∧ True) ∧ (0 : Int) = (↑(szB L a) : Int) ∧ (↑L.length : Int) = (↑L.length : Int) ∧ (0 : Int) = (0 : Int) ∧ (True ∧ L.length = L.length ∧ True ∧ ∀ (i : Nat), i < L.length → (L.getD i br0).key = (L.getD i br0).key ∧ (L.getD i br0).page = (L.getD i br0).page ∧ True) ∧ (0 : Int) = (↑a : Int)) ∧ True) ∧ ∀ (a : Nat), a.le L.length → (decide ((↑a : Int) < (↑L.length : Int)) = true → ((0 : Int) ≤ (↑a : Int) ∧ (↑a : Int) < (↑L.length : Int)) ∧ (((L.getD (↑a : Int).toNat br0).key = (decBr (V.agg [V.ss (L.getD (↑a : Int).toNat br0).key, V.si IntKind.i64 (L.getD (↑a : Int).toNat br0).page])).key ∧ (L.getD (↑a : Int).toNat br0).page = (decBr (V.agg [V.ss (L.getD (↑a : Int).toNat br0).key, V.si IntKind.i64 (L.getD (↑a : Int).toNat br0).page])).page ∧ True) ∧ smBr (decBr (V.agg [V.ss (L.getD (↑a : Int).toNat br0).key, V.si IntKind.i64 (L.getD (↑a : Int).toNat br0).page]))) ∧ ∃ (a' : Nat), a'.le L.length ∧ L.length - a' < L.length - a ∧ True ∧ ((True ∧ True) ∧ IntKind.i64.wrap ((↑(szB L a) : Int) + (↑(bSz (decBr (V.agg [V.ss (L.getD (↑a : Int).toNat br0).key, V.si IntKind.i64 (L.getD (↑a : Int).toNat br0).page]))) : Int)) = (↑(szB L a') : Int) ∧ (↑L.length : Int) = (↑L.length : Int) ∧ (0 : Int) = (0 : Int) ∧ (True ∧ L.length = L.length ∧ True ∧ ∀ (i : Nat), i < L.length → (L.getD i br0).key = (L.getD i br0).key ∧ (L.getD i br0).page = (L.getD i br0).page ∧ True) ∧ IntKind.i64.wrap ((↑a : Int) + (1 : Int)) = (↑a' : Int)) ∧ True) ∧
      (decide ((↑a : Int) < (↑L.length : Int)) = false → (↑(szB L a) : Int) = (↑(szB L L.length) : Int))) →
    vcF Try.prog St.none (specs es_sumB) [] (({ loops := loopsAt [(3, { α := Nat, inv := fun i fm st => ({ fm with tm := (fm.tm.set 5 (some (.si .i64 (szB L i : Int)))).set 10 (some (.si .i64 (i : Int))) }, st), pre := fun i => i ≤ L.length, mu := fun i => L.length - i })] } : Ann)) Try.f22 [lB L, .func (.func 23) [] []] (.si .i64 (szB L L.length : Int)) := fun h => Eq.mpr (by kernel_rfl) h
set_option maxRecDepth 100000 in
theorem sumB_ct (L : List Br) (h : smLB L) : Ct Try.prog St.none 22 [lB L, .func (.func 23) [] []] (.si .i64 (szB L L.length : Int)) := Ct.of_vcF (specs_ok es_sumB_ok) Try.func22 (by kernel_rfl) (sumB_vc L (by
  simp only [decBr_agg, decBr_v, true_and, and_true, eq_self, implies_true, and_self, Int.toNat_natCast]
  refine ⟨⟨0, Nat.zero_le _, rfl, rfl⟩, fun a ha => ⟨fun c => ?_, fun c => ?_⟩⟩
  · have hlt : a < L.length := by have := of_decide_eq_true c; omega
    have hn := h.n
    have hb := szB_le h (a + 1)
    refine ⟨⟨nn a, Int.ofNat_lt.2 hlt⟩, h.e a, a + 1, hlt, by omega, ?_, wr1 hlt (by omega)⟩
    show IntKind.i64.wrap ((szB L a : Int) + (bSz (L.getD a br0) : Int)) = ((szB L a + bSz (L.getD a br0) : Nat) : Int)
    have e : szB L (a + 1) = szB L a + bSz (L.getD a br0) := rfl
    rw [wrap_i64 (by unfold I64; omega)]; omega
  · have ha : a ≤ L.length := ha
    obtain rfl : a = L.length := by have := of_decide_eq_false c; omega
    rfl))
noncomputable def e_sumB : Ent := entC2 22 (tL 2 decBr Br.v br0) (tF0 23) (fun L _ => smLB L) (fun L _ => .si .i64 (szB L L.length : Int))
theorem sumB_ok : e_sumB.ok Try.prog St.none := entC2_ok fun L _ h => sumB_ct L h
structure smN (x : Nd) : Prop where
  e : smLE x.en
  b : smLB x.br
def nSz (x : Nd) : Nat := 1 + szE x.en x.en.length + szB x.br x.br.length
noncomputable def es_size : List Ent := [e_sumE, e_sumB]
theorem es_size_ok : EntsOk Try.prog St.none es_size := ⟨sumE_ok, sumB_ok, trivial⟩
set_option maxRecDepth 100000 in
theorem size_vc (x : Nd) :
    (((∀ (k : Nat), k < x.en.length → (x.en.getD k en0).key = (decEn (x.en.getD k en0).v).key ∧ (x.en.getD k en0).val = (decEn (x.en.getD k en0).v).val ∧ True) ∧ smLE (List.map (fun (k : Nat) => decEn (x.en.getD k en0).v) (List.range x.en.length))) ∧ ((∀ (k : Nat), k < x.br.length → (x.br.getD k br0).key = (decBr (x.br.getD k br0).v).key ∧ (x.br.getD k br0).page = (decBr (x.br.getD k br0).v).page ∧ True) ∧ smLB (List.map (fun (k : Nat) => decBr (x.br.getD k br0).v) (List.range x.br.length))) ∧ IntKind.i64.wrap (IntKind.i64.wrap ((1 : Int) + (↑(szE (List.map (fun (k : Nat) => decEn (x.en.getD k en0).v) (List.range x.en.length)) (List.map (fun (k : Nat) => decEn (x.en.getD k en0).v) (List.range x.en.length)).length) : Int)) + (↑(szB (List.map (fun (k : Nat) => decBr (x.br.getD k br0).v) (List.range x.br.length)) (List.map (fun (k : Nat) => decBr (x.br.getD k br0).v) (List.range x.br.length)).length) : Int)) = (↑(nSz x) : Int)) →
    vcF Try.prog St.none (specs es_size) [] (noAnn) Try.f10 [x.v] (.si .i64 (nSz x : Int)) := fun h => Eq.mpr (by kernel_rfl) h
set_option maxRecDepth 100000 in
theorem size_ct (x : Nd) (h : smN x) : Ct Try.prog St.none 10 [x.v] (.si .i64 (nSz x : Int)) := Ct.of_vcF (specs_ok es_size_ok) Try.func10 (by kernel_rfl) (size_vc x (by
  simp only [decEn_v, decBr_v, map_getD, true_and, and_true, eq_self, implies_true, and_self, Int.toNat_natCast]
  have h1 := szE_le h.e x.en.length
  have h2 := szB_le h.b x.br.length
  have h3 := h.e.n
  have h4 := h.b.n
  refine ⟨h.e, h.b, ?_⟩
  rw [wrap_i64 (n := 1 + (szE x.en x.en.length : Int)) (by unfold I64; omega), wrap_i64 (by unfold I64; omega)]
  unfold nSz; omega))
noncomputable def e_size : Ent := entC1 10 (tD decNd Nd.v) (fun x => smN x) (fun x => .si .i64 (nSz x : Int))
theorem size_ok : e_size.ok Try.prog St.none := entC1_ok fun x h => size_ct x h
noncomputable def es_fits : List Ent := [e_size]
theorem es_fits_ok : EntsOk Try.prog St.none es_fits := ⟨size_ok, trivial⟩
set_option maxRecDepth 100000 in
theorem fits_vc (x : Nd) :
    (((x.leaf = (decNd (V.agg [V.sb x.leaf, V.ro false x.en.length (2 : Nat) fun (k : Nat) => (x.en.getD k en0).v, V.ro false x.br.length (2 : Nat) fun (k : Nat) => (x.br.getD k br0).v])).leaf ∧ (True ∧ x.en.length = (decNd (V.agg [V.sb x.leaf, V.ro false x.en.length (2 : Nat) fun (k : Nat) => (x.en.getD k en0).v, V.ro false x.br.length (2 : Nat) fun (k : Nat) => (x.br.getD k br0).v])).en.length ∧ True ∧ ∀ (i : Nat), i < (decNd (V.agg [V.sb x.leaf, V.ro false x.en.length (2 : Nat) fun (k : Nat) => (x.en.getD k en0).v, V.ro false x.br.length (2 : Nat) fun (k : Nat) => (x.br.getD k br0).v])).en.length → (x.en.getD i en0).key = ((decNd (V.agg [V.sb x.leaf, V.ro false x.en.length (2 : Nat) fun (k : Nat) => (x.en.getD k en0).v, V.ro false x.br.length (2 : Nat) fun (k : Nat) => (x.br.getD k br0).v])).en.getD i en0).key ∧ (x.en.getD i en0).val = ((decNd (V.agg [V.sb x.leaf, V.ro false x.en.length (2 : Nat) fun (k : Nat) => (x.en.getD k en0).v, V.ro false x.br.length (2 : Nat) fun (k : Nat) => (x.br.getD k br0).v])).en.getD i en0).val ∧ True) ∧ (True ∧ x.br.length = (decNd (V.agg [V.sb x.leaf, V.ro false x.en.length (2 : Nat) fun (k : Nat) => (x.en.getD k en0).v, V.ro false x.br.length (2 : Nat) fun (k : Nat) => (x.br.getD k br0).v])).br.length ∧ True ∧ ∀ (i : Nat), i < (decNd (V.agg [V.sb x.leaf, V.ro false x.en.length (2 : Nat) fun (k : Nat) => (x.en.getD k en0).v, V.ro false x.br.length (2 : Nat) fun (k : Nat) => (x.br.getD k br0).v])).br.length →
      (x.br.getD i br0).key = ((decNd (V.agg [V.sb x.leaf, V.ro false x.en.length (2 : Nat) fun (k : Nat) => (x.en.getD k en0).v, V.ro false x.br.length (2 : Nat) fun (k : Nat) => (x.br.getD k br0).v])).br.getD i br0).key ∧ (x.br.getD i br0).page = ((decNd (V.agg [V.sb x.leaf, V.ro false x.en.length (2 : Nat) fun (k : Nat) => (x.en.getD k en0).v, V.ro false x.br.length (2 : Nat) fun (k : Nat) => (x.br.getD k br0).v])).br.getD i br0).page ∧ True) ∧ True) ∧ smN (decNd (V.agg [V.sb x.leaf, V.ro false x.en.length (2 : Nat) fun (k : Nat) => (x.en.getD k en0).v, V.ro false x.br.length (2 : Nat) fun (k : Nat) => (x.br.getD k br0).v]))) ∧ decide ((↑(nSz (decNd (V.agg [V.sb x.leaf, V.ro false x.en.length (2 : Nat) fun (k : Nat) => (x.en.getD k en0).v, V.ro false x.br.length (2 : Nat) fun (k : Nat) => (x.br.getD k br0).v]))) : Int) ≤ (254 : Int)) = decide ((↑(nSz x) : Int) ≤ (254 : Int))) →
    vcF Try.prog St.none (specs es_fits) [] (noAnn) Try.f11 [x.v] (.sb (decide ((nSz x : Int) ≤ 254))) := fun h => Eq.mpr (by kernel_rfl) h
set_option maxRecDepth 100000 in
theorem fits_ct (x : Nd) (h : smN x) : Ct Try.prog St.none 11 [x.v] (.sb (decide ((nSz x : Int) ≤ 254))) := Ct.of_vcF (specs_ok es_fits_ok) Try.func11 (by kernel_rfl) (fits_vc x (by
  simp only [decNd_agg, true_and, and_true, eq_self, implies_true, and_self, Int.toNat_natCast]
  exact h))
noncomputable def e_fits : Ent := entC1 11 (tD decNd Nd.v) (fun x => smN x) (fun x => .sb (decide ((nSz x : Int) ≤ 254)))
theorem fits_ok : e_fits.ok Try.prog St.none := entC1_ok fun x h => fits_ct x h
def eB (e : En) : List UInt8 := UInt8.ofNat e.key.length :: e.key ++ (UInt8.ofNat e.val.length :: e.val)
def bB (e : Br) : List UInt8 := UInt8.ofNat e.key.length :: e.key ++ [UInt8.ofNat (e.page.toNat / 256), UInt8.ofNat e.page.toNat]
def bodE (L : List En) : Nat → List UInt8
  | 0 => [1]
  | i + 1 => bodE L i ++ eB (L.getD i en0)
def bodB (L : List Br) : Nat → List UInt8
  | 0 => [2]
  | i + 1 => bodB L i ++ bB (L.getD i br0)
def encN (x : Nd) : List UInt8 × Int := if mayN x then (if nSz x ≤ 254 then (if x.leaf then bodE x.en x.en.length else bodB x.br x.br.length, 0) else ([], 40)) else ([], 4)
def byteV (l : List UInt8) : Nat → Nat → V := fun _ k => .si .u8 ((l.getD k 0).toNat : Int)
theorem acc_text (l : List UInt8) : accB [some l.length] (byteV l) = l := by
  show ((List.range l.length).map fun k => Sv.byteOf (V.si .u8 ((l.getD k 0).toNat : Int))) ++ [] = l
  rw [List.append_nil]
  have e : (fun k => Sv.byteOf (V.si .u8 ((l.getD k 0).toNat : Int))) = fun k => l.getD k 0 := by
    funext k
    show UInt8.ofNat (Int.toNat ((l.getD k 0).toNat : Int)) = l.getD k 0
    rw [Int.toNat_natCast]; exact UInt8.ofNat_toNat
  rw [e]
  exact map_getD l 0
theorem gdl (A B : List UInt8) {k : Nat} (h : k < A.length) : (A ++ B).getD k 0 = A.getD k 0 := by
  simp only [List.getD_eq_getElem?_getD, List.getElem?_append_left h]
theorem gdr (A B : List UInt8) (k : Nat) : (A ++ B).getD (A.length + k) 0 = B.getD k 0 := by
  simp only [List.getD_eq_getElem?_getD]
  rw [List.getElem?_append_right (by omega), show A.length + k - A.length = k by omega]
theorem gdr0 (A B : List UInt8) : (A ++ B).getD A.length 0 = B.getD 0 0 := gdr A B 0
theorem gdc (b : UInt8) (T : List UInt8) (k : Nat) : (b :: T).getD (1 + k) 0 = T.getD k 0 := by
  rw [Nat.add_comm]; rfl
/-- behind a text, a byte, and a text -/
theorem gd3 (A key T : List UInt8) (b : UInt8) (j : Nat) : (A ++ (b :: (key ++ T))).getD (A.length + 1 + key.length + j) 0 = T.getD j 0 := by
  rw [show A.length + 1 + key.length + j = A.length + (1 + (key.length + j)) by omega, gdr, gdc, gdr]
theorem gd2 (A key T : List UInt8) (b : UInt8) {j : Nat} (h : j < key.length) : (A ++ (b :: (key ++ T))).getD (A.length + 1 + j) 0 = key.getD j 0 := by
  rw [Nat.add_assoc, gdr, gdc, gdl _ _ h]
theorem u8_nat (n : Nat) : IntKind.u8.wrap (n : Int) = ((UInt8.ofNat n).toNat : Int) := by
  rw [IntKind.wrap_u8, UInt8.toNat_ofNat']; omega
theorem bodE_succ (L : List En) (i : Nat) : bodE L (i + 1) = bodE L i ++ (UInt8.ofNat (L.getD i en0).key.length :: ((L.getD i en0).key ++ (UInt8.ofNat (L.getD i en0).val.length :: (L.getD i en0).val))) := rfl
theorem bodB_succ (L : List Br) (i : Nat) : bodB L (i + 1) = bodB L i ++ (UInt8.ofNat (L.getD i br0).key.length :: ((L.getD i br0).key ++ [UInt8.ofNat ((L.getD i br0).page.toNat / 256), UInt8.ofNat (L.getD i br0).page.toNat])) := rfl
theorem bodE_len (L : List En) : ∀ i, (bodE L i).length = 1 + szE L i
  | 0 => rfl
  | i + 1 => by rw [bodE_succ, List.length_append, bodE_len L i]; simp only [szE, eSz, List.length_cons, List.length_append]; omega
theorem bodB_len (L : List Br) : ∀ i, (bodB L i).length = 1 + szB L i
  | 0 => rfl
  | i + 1 => by rw [bodB_succ, List.length_append, bodB_len L i]; simp only [szB, bSz, List.length_cons, List.length_append, List.length_nil]; omega
theorem may_br {x : Nd} (h : mayN x = true) (hl : x.leaf = false) : x.en.length = 0 ∧ ∀ i, i < x.br.length → okB x.br i = true := by
  unfold mayN at h
  rw [hl, if_neg (by decide), Bool.and_eq_true] at h
  exact ⟨of_decide_eq_true h.1, fun i hi => List.all_eq_true.1 h.2 i (List.mem_range.2 hi)⟩
theorem may_en {x : Nd} (h : mayN x = true) (hl : x.leaf = true) : x.br.length = 0 ∧ ∀ i, i < x.en.length → okE x.en i = true := by
  unfold mayN at h
  rw [if_pos hl, Bool.and_eq_true] at h
  exact ⟨of_decide_eq_true h.1, fun i hi => List.all_eq_true.1 h.2 i (List.mem_range.2 hi)⟩
theorem okB_spec {L : List Br} {i : Nat} (h : okB L i = true) : (L.getD i br0).key.length ≤ 24 ∧ 2 ≤ (L.getD i br0).page ∧ (L.getD i br0).page < 1024 := by
  unfold okB at h
  simp only [Bool.and_eq_true, decide_eq_true_eq] at h
  exact ⟨by omega, h.1.1.2, h.1.2⟩
theorem okE_spec {L : List En} {i : Nat} (h : okE L i = true) : 1 ≤ (L.getD i en0).key.length ∧ (L.getD i en0).key.length ≤ 24 ∧ (L.getD i en0).val.length ≤ 100 := by
  unfold okE at h
  simp only [Bool.and_eq_true, decide_eq_true_eq] at h
  exact ⟨by omega, by omega, by omega⟩
noncomputable def es_enc : List Ent := [e_may, e_fits]
theorem es_enc_ok : EntsOk Try.prog St.none es_enc := ⟨may_ok, fits_ok, trivial⟩
set_option maxRecDepth 100000 in
theorem enc_vc (x : Nd) :
    (((x.leaf = (decNd (V.agg [V.sb x.leaf, V.ro false x.en.length (2 : Nat) fun (k : Nat) => (x.en.getD k en0).v, V.ro false x.br.length (2 : Nat) fun (k : Nat) => (x.br.getD k br0).v])).leaf ∧ (True ∧ x.en.length = (decNd (V.agg [V.sb x.leaf, V.ro false x.en.length (2 : Nat) fun (k : Nat) => (x.en.getD k en0).v, V.ro false x.br.length (2 : Nat) fun (k : Nat) => (x.br.getD k br0).v])).en.length ∧ True ∧ ∀ (i : Nat), i < (decNd (V.agg [V.sb x.leaf, V.ro false x.en.length (2 : Nat) fun (k : Nat) => (x.en.getD k en0).v, V.ro false x.br.length (2 : Nat) fun (k : Nat) => (x.br.getD k br0).v])).en.length → (x.en.getD i en0).key = ((decNd (V.agg [V.sb x.leaf, V.ro false x.en.length (2 : Nat) fun (k : Nat) => (x.en.getD k en0).v, V.ro false x.br.length (2 : Nat) fun (k : Nat) => (x.br.getD k br0).v])).en.getD i en0).key ∧ (x.en.getD i en0).val = ((decNd (V.agg [V.sb x.leaf, V.ro false x.en.length (2 : Nat) fun (k : Nat) => (x.en.getD k en0).v, V.ro false x.br.length (2 : Nat) fun (k : Nat) => (x.br.getD k br0).v])).en.getD i en0).val ∧ True) ∧ (True ∧ x.br.length = (decNd (V.agg [V.sb x.leaf, V.ro false x.en.length (2 : Nat) fun (k : Nat) => (x.en.getD k en0).v, V.ro false x.br.length (2 : Nat) fun (k : Nat) => (x.br.getD k br0).v])).br.length ∧ True ∧ ∀ (i : Nat), i < (decNd (V.agg [V.sb x.leaf, V.ro false x.en.length (2 : Nat) fun (k : Nat) => (x.en.getD k en0).v, V.ro false x.br.length (2 : Nat) fun (k : Nat) => (x.br.getD k br0).v])).br.length →
      (x.br.getD i br0).key = ((decNd (V.agg [V.sb x.leaf, V.ro false x.en.length (2 : Nat) fun (k : Nat) => (x.en.getD k en0).v, V.ro false x.br.length (2 : Nat) fun (k : Nat) => (x.br.getD k br0).v])).br.getD i br0).key ∧ (x.br.getD i br0).page = ((decNd (V.agg [V.sb x.leaf, V.ro false x.en.length (2 : Nat) fun (k : Nat) => (x.en.getD k en0).v, V.ro false x.br.length (2 : Nat) fun (k : Nat) => (x.br.getD k br0).v])).br.getD i br0).page ∧ True) ∧ True) ∧ (decNd (V.agg [V.sb x.leaf, V.ro false x.en.length (2 : Nat) fun (k : Nat) => (x.en.getD k en0).v, V.ro false x.br.length (2 : Nat) fun (k : Nat) => (x.br.getD k br0).v])).en.length ≤ (4000000000000 : Nat) ∧ (decNd (V.agg [V.sb x.leaf, V.ro false x.en.length (2 : Nat) fun (k : Nat) => (x.en.getD k en0).v, V.ro false x.br.length (2 : Nat) fun (k : Nat) => (x.br.getD k br0).v])).br.length ≤ (4000000000000 : Nat)) ∧ ((!mayN (decNd (V.agg [V.sb x.leaf, V.ro false x.en.length (2 : Nat) fun (k : Nat) => (x.en.getD k en0).v, V.ro false x.br.length (2 : Nat) fun (k : Nat) => (x.br.getD k br0).v]))) = true → List.map UInt8.ofNat (bs { data := #[] }) = (encN x).fst ∧ (4 : Int) = (encN x).snd ∧ True) ∧ ((!mayN (decNd (V.agg [V.sb x.leaf, V.ro false x.en.length (2 : Nat) fun (k : Nat) => (x.en.getD k en0).v, V.ro false x.br.length (2 : Nat) fun (k : Nat) => (x.br.getD k br0).v]))) = false →
      ((x.leaf = (decNd (V.agg [V.sb x.leaf, V.ro false x.en.length (2 : Nat) fun (k : Nat) => (x.en.getD k en0).v, V.ro false x.br.length (2 : Nat) fun (k : Nat) => (x.br.getD k br0).v])).leaf ∧ (True ∧ x.en.length = (decNd (V.agg [V.sb x.leaf, V.ro false x.en.length (2 : Nat) fun (k : Nat) => (x.en.getD k en0).v, V.ro false x.br.length (2 : Nat) fun (k : Nat) => (x.br.getD k br0).v])).en.length ∧ True ∧ ∀ (i : Nat), i < (decNd (V.agg [V.sb x.leaf, V.ro false x.en.length (2 : Nat) fun (k : Nat) => (x.en.getD k en0).v, V.ro false x.br.length (2 : Nat) fun (k : Nat) => (x.br.getD k br0).v])).en.length → (x.en.getD i en0).key = ((decNd (V.agg [V.sb x.leaf, V.ro false x.en.length (2 : Nat) fun (k : Nat) => (x.en.getD k en0).v, V.ro false x.br.length (2 : Nat) fun (k : Nat) => (x.br.getD k br0).v])).en.getD i en0).key ∧ (x.en.getD i en0).val = ((decNd (V.agg [V.sb x.leaf, V.ro false x.en.length (2 : Nat) fun (k : Nat) => (x.en.getD k en0).v, V.ro false x.br.length (2 : Nat) fun (k : Nat) => (x.br.getD k br0).v])).en.getD i en0).val ∧ True) ∧ (True ∧ x.br.length = (decNd (V.agg [V.sb x.leaf, V.ro false x.en.length (2 : Nat) fun (k : Nat) => (x.en.getD k en0).v, V.ro false x.br.length (2 : Nat) fun (k : Nat) => (x.br.getD k br0).v])).br.length ∧ True ∧ ∀ (i : Nat), i < (decNd (V.agg [V.sb x.leaf, V.ro false x.en.length (2 : Nat) fun (k : Nat) => (x.en.getD k en0).v, V.ro false x.br.length (2 : Nat) fun (k : Nat) => (x.br.getD k br0).v])).br.length →
      (x.br.getD i br0).key = ((decNd (V.agg [V.sb x.leaf, V.ro false x.en.length (2 : Nat) fun (k : Nat) => (x.en.getD k en0).v, V.ro false x.br.length (2 : Nat) fun (k : Nat) => (x.br.getD k br0).v])).br.getD i br0).key ∧ (x.br.getD i br0).page = ((decNd (V.agg [V.sb x.leaf, V.ro false x.en.length (2 : Nat) fun (k : Nat) => (x.en.getD k en0).v, V.ro false x.br.length (2 : Nat) fun (k : Nat) => (x.br.getD k br0).v])).br.getD i br0).page ∧ True) ∧ True) ∧ smN (decNd (V.agg [V.sb x.leaf, V.ro false x.en.length (2 : Nat) fun (k : Nat) => (x.en.getD k en0).v, V.ro false x.br.length (2 : Nat) fun (k : Nat) => (x.br.getD k br0).v]))) ∧ ((!decide ((↑(nSz (decNd (V.agg [V.sb x.leaf, V.ro false x.en.length (2 : Nat) fun (k : Nat) => (x.en.getD k en0).v, V.ro false x.br.length (2 : Nat) fun (k : Nat) => (x.br.getD k br0).v]))) : Int) ≤ (254 : Int))) = true → List.map UInt8.ofNat (bs { data := #[] }) = (encN x).fst ∧ (40 : Int) = (encN x).snd ∧ True) ∧ ((!decide ((↑(nSz (decNd (V.agg [V.sb x.leaf, V.ro false x.en.length (2 : Nat) fun (k : Nat) => (x.en.getD k en0).v, V.ro false x.br.length (2 : Nat) fun (k : Nat) => (x.br.getD k br0).v]))) : Int) ≤ (254 : Int))) = false → ((!x.leaf) = true → (∃ (a : Nat), a.le x.br.length ∧ True ∧ (True ∧ (0 : Int) = (0 : Int) ∧ (0 : Int) = (↑a : Int) ∧ (True ∧ x.br.length = x.br.length ∧ True ∧ ∀ (i : Nat), i < x.br.length → (x.br.getD i br0).key = (x.br.getD i br0).key ∧ (x.br.getD i br0).page = (x.br.getD i br0).page ∧ True) ∧ True ∧
      (nat_lit 0 + (1 : Nat) = (bodB x.br a).length ∧ ∀ (k : Nat), k < (bodB x.br a).length → [(2 : Int)].getD k (0 : Int) = (↑((bodB x.br a).getD k (0 : UInt8)).toNat : Int)) ∧ (↑x.br.length : Int) = (↑x.br.length : Int)) ∧ x.leaf = x.leaf ∧ (True ∧ x.en.length = x.en.length ∧ True ∧ ∀ (i : Nat), i < x.en.length → (x.en.getD i en0).key = (x.en.getD i en0).key ∧ (x.en.getD i en0).val = (x.en.getD i en0).val ∧ True) ∧ True ∧ x.br.length = x.br.length ∧ True ∧ ∀ (i : Nat), i < x.br.length → (x.br.getD i br0).key = (x.br.getD i br0).key ∧ (x.br.getD i br0).page = (x.br.getD i br0).page ∧ True) ∧ ∀ (a : Nat), a.le x.br.length → (decide ((↑a : Int) < (↑x.br.length : Int)) = true → ((0 : Int) ≤ (↑a : Int) ∧ (↑a : Int) < (↑x.br.length : Int)) ∧ (totN [some (bodB x.br a).length] + totN (List.replicate (1 : Nat) none)) * nat_lit 1 ≤ (140737488355328 : Nat) ∧ (totN [some (bodB x.br a).length, none] + totN [some (x.br.getD (↑a : Int).toNat br0).key.length]) * nat_lit 1 ≤ (140737488355328 : Nat) ∧ (0 : Int) ≤ (8 : Int) ∧ (totN [some (bodB x.br a).length, none, some (x.br.getD (↑a : Int).toNat br0).key.length] + totN (List.replicate (2 : Nat) none)) * nat_lit 1 ≤ (140737488355328 : Nat) ∧ ∃ (a' : Nat), a'.le x.br.length ∧ x.br.length - a' < x.br.length - a ∧ True ∧ (True ∧ (0 : Int) = (0 : Int) ∧ IntKind.i64.wrap ((↑a : Int) + (1 : Int)) = (↑a' : Int) ∧ (True ∧ x.br.length = x.br.length ∧ True ∧ ∀ (i : Nat), i < x.br.length → (x.br.getD i br0).key = (x.br.getD i br0).key ∧
      (x.br.getD i br0).page = (x.br.getD i br0).page ∧ True) ∧ True ∧ (totN [some (bodB x.br a).length, none, some (x.br.getD (↑a : Int).toNat br0).key.length, none, none] = (bodB x.br a').length ∧ (∀ (k : Nat), k < (bodB x.br a).length → (↑((bodB x.br a).getD k (0 : UInt8)).toNat : Int) = (↑((bodB x.br a').getD k (0 : UInt8)).toNat : Int)) ∧ IntKind.u8.wrap (↑(x.br.getD (↑a : Int).toNat br0).key.length : Int) = (↑((bodB x.br a').getD (bodB x.br a).length (0 : UInt8)).toNat : Int) ∧ (∀ (k : Nat), k < (x.br.getD (↑a : Int).toNat br0).key.length → (↑((x.br.getD (↑a : Int).toNat br0).key.getD k (0 : UInt8)).toNat : Int) = (↑((bodB x.br a').getD ((bodB x.br a).length + (1 : Nat) + k) (0 : UInt8)).toNat : Int)) ∧ IntKind.u8.wrap ((x.br.getD (↑a : Int).toNat br0).page.fdiv ((2 : Int) ^ min (Int.toNat (8 : Int)) IntKind.i64.bits)) = (↑((bodB x.br a').getD ((bodB x.br a).length + (1 : Nat) + (x.br.getD (↑a : Int).toNat br0).key.length) (0 : UInt8)).toNat : Int) ∧ IntKind.u8.wrap (x.br.getD (↑a : Int).toNat br0).page = (↑((bodB x.br a').getD ((bodB x.br a).length + (1 : Nat) + (x.br.getD (↑a : Int).toNat br0).key.length + (1 : Nat)) (0 : UInt8)).toNat : Int) ∧ True) ∧ (↑x.br.length : Int) = (↑x.br.length : Int)) ∧ (x.leaf = x.leaf ∧ (True ∧ x.en.length = x.en.length ∧ True ∧ ∀ (i : Nat), i < x.en.length → (x.en.getD i en0).key = (x.en.getD i en0).key ∧ (x.en.getD i en0).val = (x.en.getD i en0).val ∧ True) ∧ True ∧ x.br.length = x.br.length ∧ True ∧ ∀ (i : Nat), i < x.br.length →
      (x.br.getD i br0).key = (x.br.getD i br0).key ∧ (x.br.getD i br0).page = (x.br.getD i br0).page ∧ True) ∧ True) ∧ (decide ((↑a : Int) < (↑x.br.length : Int)) = false → ((∀ (k : Nat), k < (bodB x.br a).length → True) ∧ True) ∧ accB ([some (bodB x.br a).length], byteV (bodB x.br a)).fst ([some (bodB x.br a).length], byteV (bodB x.br a)).snd = (encN x).fst ∧ (0 : Int) = (encN x).snd ∧ True)) ∧ ((!x.leaf) = false → (∃ (a : Nat), a.le x.en.length ∧ True ∧ ((0 : Int) = (0 : Int) ∧ (nat_lit 0 + (1 : Nat) = (bodE x.en a).length ∧ ∀ (k : Nat), k < (bodE x.en a).length → [(1 : Int)].getD k (0 : Int) = (↑((bodE x.en a).getD k (0 : UInt8)).toNat : Int)) ∧ (0 : Int) = (↑a : Int) ∧ (True ∧ x.en.length = x.en.length ∧ True ∧ ∀ (i : Nat), i < x.en.length → (x.en.getD i en0).key = (x.en.getD i en0).key ∧ (x.en.getD i en0).val = (x.en.getD i en0).val ∧ True) ∧ True ∧ (↑x.en.length : Int) = (↑x.en.length : Int)) ∧ True) ∧ ∀ (a : Nat), a.le x.en.length → (decide ((↑a : Int) < (↑x.en.length : Int)) = true → ((0 : Int) ≤ (↑a : Int) ∧ (↑a : Int) < (↑x.en.length : Int)) ∧ (totN [some (bodE x.en a).length] + totN (List.replicate (1 : Nat) none)) * nat_lit 1 ≤ (140737488355328 : Nat) ∧ (totN [some (bodE x.en a).length, none] + totN [some (x.en.getD (↑a : Int).toNat en0).key.length]) * nat_lit 1 ≤ (140737488355328 : Nat) ∧ (totN [some (bodE x.en a).length, none, some (x.en.getD (↑a : Int).toNat en0).key.length] + totN (List.replicate (1 : Nat) none)) * nat_lit 1 ≤ (140737488355328 : Nat) ∧
      (totN [some (bodE x.en a).length, none, some (x.en.getD (↑a : Int).toNat en0).key.length, none] + totN [some (x.en.getD (↑a : Int).toNat en0).val.length]) * nat_lit 1 ≤ (140737488355328 : Nat) ∧ ∃ (a' : Nat), a'.le x.en.length ∧ x.en.length - a' < x.en.length - a ∧ True ∧ ((0 : Int) = (0 : Int) ∧ (totN [some (bodE x.en a).length, none, some (x.en.getD (↑a : Int).toNat en0).key.length, none, some (x.en.getD (↑a : Int).toNat en0).val.length] = (bodE x.en a').length ∧ (∀ (k : Nat), k < (bodE x.en a).length → (↑((bodE x.en a).getD k (0 : UInt8)).toNat : Int) = (↑((bodE x.en a').getD k (0 : UInt8)).toNat : Int)) ∧ IntKind.u8.wrap (↑(x.en.getD (↑a : Int).toNat en0).key.length : Int) = (↑((bodE x.en a').getD (bodE x.en a).length (0 : UInt8)).toNat : Int) ∧ (∀ (k : Nat), k < (x.en.getD (↑a : Int).toNat en0).key.length → (↑((x.en.getD (↑a : Int).toNat en0).key.getD k (0 : UInt8)).toNat : Int) = (↑((bodE x.en a').getD ((bodE x.en a).length + (1 : Nat) + k) (0 : UInt8)).toNat : Int)) ∧ IntKind.u8.wrap (↑(x.en.getD (↑a : Int).toNat en0).val.length : Int) = (↑((bodE x.en a').getD ((bodE x.en a).length + (1 : Nat) + (x.en.getD (↑a : Int).toNat en0).key.length) (0 : UInt8)).toNat : Int) ∧ (∀ (k : Nat), k < (x.en.getD (↑a : Int).toNat en0).val.length → (↑((x.en.getD (↑a : Int).toNat en0).val.getD k (0 : UInt8)).toNat : Int) = (↑((bodE x.en a').getD ((bodE x.en a).length + (1 : Nat) + (x.en.getD (↑a : Int).toNat en0).key.length + (1 : Nat) + k) (0 : UInt8)).toNat : Int)) ∧ True) ∧
      IntKind.i64.wrap ((↑a : Int) + (1 : Int)) = (↑a' : Int) ∧ (True ∧ x.en.length = x.en.length ∧ True ∧ ∀ (i : Nat), i < x.en.length → (x.en.getD i en0).key = (x.en.getD i en0).key ∧ (x.en.getD i en0).val = (x.en.getD i en0).val ∧ True) ∧ True ∧ (↑x.en.length : Int) = (↑x.en.length : Int)) ∧ True) ∧ (decide ((↑a : Int) < (↑x.en.length : Int)) = false → ((∀ (k : Nat), k < (bodE x.en a).length → True) ∧ True) ∧ accB ([some (bodE x.en a).length], byteV (bodE x.en a)).fst ([some (bodE x.en a).length], byteV (bodE x.en a)).snd = (encN x).fst ∧ (0 : Int) = (encN x).snd ∧ True))))) →
    vcF Try.prog St.none (specs es_enc) [] (({ loops := loopsAt [(8, { α := Nat, inv := fun i fm st => ({ fm with tm := (fm.tm.set 4 (some (.acc st.next 1 [some (bodB x.br i).length] (byteV (bodB x.br i))))).set 23 (some (.si .i64 (i : Int))) }, st.add .tip), pre := fun i => i ≤ x.br.length, mu := fun i => x.br.length - i, fz := [4] }), (17, { α := Nat, inv := fun i fm st => ({ fm with tm := (fm.tm.set 7 (some (.acc st.next 1 [some (bodE x.en i).length] (byteV (bodE x.en i))))).set 55 (some (.si .i64 (i : Int))) }, st.add .tip), pre := fun i => i ≤ x.en.length, mu := fun i => x.en.length - i, fz := [7] })] } : Ann)) Try.f7 [x.v] (.tuple [.ss (encN x).1, .si .i64 (encN x).2]) := fun h => Eq.mpr (by kernel_rfl) h
set_option maxRecDepth 100000 in
theorem enc_ct (x : Nd) (h : smN x) : Ct Try.prog St.none 7 [x.v] (.tuple [.ss (encN x).1, .si .i64 (encN x).2]) := Ct.of_vcF (specs_ok es_enc_ok) Try.func7 (by kernel_rfl) (enc_vc x (by
  simp only [decNd_agg, true_and, and_true, eq_self, implies_true, and_self, Int.toNat_natCast]
  have n1 := h.e.n
  have n2 := h.b.n
  have ex : (⟨x.leaf, x.en, x.br⟩ : Nd) = x := rfl
  rw [ex]
  refine ⟨⟨by omega, by omega⟩, fun c => ?_, fun c1 => ⟨h, fun c => ?_, fun c2 => ⟨fun c3 => ⟨⟨0, Nat.zero_le _, rfl, rfl, fun k hk => ?_⟩, fun a ha => ⟨fun ca => ?_, fun ca => ?_⟩⟩, fun c3 => ⟨⟨0, Nat.zero_le _, ⟨rfl, fun k hk => ?_⟩, rfl⟩, fun a ha => ⟨fun ca => ?_, fun ca => ?_⟩⟩⟩⟩⟩
  · have c : mayN x = false := by simpa using c
    unfold encN; rw [c]; exact ⟨rfl, rfl⟩
  · have c1 : mayN x = true := by simpa using c1
    have c : ¬ nSz x ≤ 254 := by simp at c; omega
    unfold encN; rw [if_pos c1, if_neg c]; exact ⟨rfl, rfl⟩
  · match k, hk with
    | 0, _ => rfl
  · have c1 : mayN x = true := by simpa using c1
    have c3 : x.leaf = false := by simpa using c3
    have hlt : a < x.br.length := by have := of_decide_eq_true ca; omega
    obtain ⟨o1, o2, o3⟩ := okB_spec ((may_br c1 c3).2 a hlt)
    have hb := bodB_len x.br a
    have hs := szB_le h.b a
    refine ⟨⟨nn a, Int.ofNat_lt.2 hlt⟩, ?_, ?_, by decide, ?_, a + 1, hlt, by omega, wr1 hlt (by omega), ?_, fun k hk => ?_, ?_, fun k hk => ?_, ?_, ?_⟩
    · simp only [totN, segN, totN_replicate]; omega
    · simp only [totN, segN]; omega
    · simp only [totN, segN, totN_replicate]; omega
    · rw [bodB_succ]; simp only [totN, segN, List.length_append, List.length_cons, List.length_nil]; omega
    · rw [bodB_succ, gdl _ _ hk]
    · rw [bodB_succ, gdr0, u8_nat]; rfl
    · rw [bodB_succ, gd2 _ _ _ _ hk]
    · have := gd3 (bodB x.br a) (x.br.getD a br0).key [UInt8.ofNat ((x.br.getD a br0).page.toNat / 256), UInt8.ofNat (x.br.getD a br0).page.toNat] (UInt8.ofNat (x.br.getD a br0).key.length) 0
      rw [Nat.add_zero] at this
      rw [bodB_succ, this]
      show _ = ((UInt8.ofNat ((x.br.getD a br0).page.toNat / 256)).toNat : Int)
      rw [← u8_nat]
      congr 1
      have e : (2 : Int) ^ min (Int.toNat 8) IntKind.i64.bits = 256 := by decide
      rw [e, Int.fdiv_eq_ediv_of_nonneg _ (by decide)]; omega
    · rw [bodB_succ, gd3]
      show _ = ((UInt8.ofNat (x.br.getD a br0).page.toNat).toNat : Int)
      rw [← u8_nat]; congr 1; omega
  · have c1 : mayN x = true := by simpa using c1
    have c2 : nSz x ≤ 254 := by simp at c2; omega
    have c3 : x.leaf = false := by simpa using c3
    have ha : a ≤ x.br.length := ha
    obtain rfl : a = x.br.length := by have := of_decide_eq_false ca; omega
    rw [acc_text]
    unfold encN; rw [if_pos c1, if_pos c2, if_neg (by rw [c3]; decide)]; exact ⟨rfl, rfl⟩
  · match k, hk with
    | 0, _ => rfl
  · have c1 : mayN x = true := by simpa using c1
    have c3 : x.leaf = true := by simpa using c3
    have hlt : a < x.en.length := by have := of_decide_eq_true ca; omega
    obtain ⟨o1, o2, o3⟩ := okE_spec ((may_en c1 c3).2 a hlt)
    have hb := bodE_len x.en a
    have hs := szE_le h.e a
    refine ⟨⟨nn a, Int.ofNat_lt.2 hlt⟩, ?_, ?_, ?_, ?_, a + 1, hlt, by omega, ⟨?_, fun k hk => ?_, ?_, fun k hk => ?_, ?_, fun k hk => ?_⟩, wr1 hlt (by omega)⟩
    · simp only [totN, segN, totN_replicate]; omega
    · simp only [totN, segN]; omega
    · simp only [totN, segN, totN_replicate]; omega
    · simp only [totN, segN]; omega
    · rw [bodE_succ]; simp only [totN, segN, List.length_append, List.length_cons, List.length_nil]; omega
    · rw [bodE_succ, gdl _ _ hk]
    · rw [bodE_succ, gdr0, u8_nat]; rfl
    · rw [bodE_succ, gd2 _ _ _ _ hk]
    · have := gd3 (bodE x.en a) (x.en.getD a en0).key (UInt8.ofNat (x.en.getD a en0).val.length :: (x.en.getD a en0).val) (UInt8.ofNat (x.en.getD a en0).key.length) 0
      rw [Nat.add_zero] at this
      rw [bodE_succ, this, u8_nat]; rfl
    · rw [bodE_succ, Nat.add_assoc (_ + _), gd3, gdc]
  · have c1 : mayN x = true := by simpa using c1
    have c2 : nSz x ≤ 254 := by simp at c2; omega
    have c3 : x.leaf = true := by simpa using c3
    have ha : a ≤ x.en.length := ha
    obtain rfl : a = x.en.length := by have := of_decide_eq_false ca; omega
    rw [acc_text]
    unfold encN; rw [if_pos c1, if_pos c2, if_pos c3]; exact ⟨rfl, rfl⟩))
noncomputable def e_enc : Ent := entC1 7 (tD decNd Nd.v) (fun x => smN x) (fun x => .tuple [.ss (encN x).1, .si .i64 (encN x).2])
theorem enc_ok : e_enc.ok Try.prog St.none := entC1_ok fun x h => enc_ct x h
def cutT (s : List UInt8) : Option (List UInt8 × List UInt8) := match s with
  | [] => none
  | b :: t => if b.toNat ≤ t.length then some (t.take b.toNat, t.drop b.toNat) else none
def tripV (p : Option (List UInt8 × List UInt8)) : V := match p with
  | none => .tuple [.ss [], .ss [], .sb false]
  | some (a, b) => .tuple [.ss a, .ss b, .sb true]
noncomputable def es_cutT : List Ent := []
theorem es_cutT_ok : EntsOk Try.prog St.none es_cutT := trivial
set_option maxRecDepth 100000 in
theorem cutT_vc (s : List UInt8) :
    ((decide (s = List.map UInt8.ofNat (bs { data := #[] })) = true → List.map UInt8.ofNat (bs { data := #[] }) = ((cutT s).getD ([], [])).fst ∧ List.map UInt8.ofNat (bs { data := #[] }) = ((cutT s).getD ([], [])).snd ∧ false = (cutT s).isSome ∧ True) ∧ (decide (s = List.map UInt8.ofNat (bs { data := #[] })) = false → ((0 : Int) ≤ (0 : Int) ∧ (0 : Int) < (↑s.length : Int)) ∧ (decide ((↑s.length : Int) ≤ IntKind.i64.wrap (↑(s.getD (Int.toNat (0 : Int)) (0 : UInt8)).toNat : Int)) = true → List.map UInt8.ofNat (bs { data := #[] }) = ((cutT s).getD ([], [])).fst ∧ List.map UInt8.ofNat (bs { data := #[] }) = ((cutT s).getD ([], [])).snd ∧ false = (cutT s).isSome ∧ True) ∧ (decide ((↑s.length : Int) ≤ IntKind.i64.wrap (↑(s.getD (Int.toNat (0 : Int)) (0 : UInt8)).toNat : Int)) = false → ((0 : Int) ≤ (0 : Int) ∧ (0 : Int) < (↑s.length : Int)) ∧ ((0 : Int) ≤ (1 : Int) ∧ (1 : Int) ≤ IntKind.i64.wrap ((1 : Int) + IntKind.i64.wrap (↑(s.getD (Int.toNat (0 : Int)) (0 : UInt8)).toNat : Int)) ∧ IntKind.i64.wrap ((1 : Int) + IntKind.i64.wrap (↑(s.getD (Int.toNat (0 : Int)) (0 : UInt8)).toNat : Int)) ≤ (↑s.length : Int)) ∧ ((0 : Int) ≤ IntKind.i64.wrap ((1 : Int) + IntKind.i64.wrap (↑(s.getD (Int.toNat (0 : Int)) (0 : UInt8)).toNat : Int)) ∧ IntKind.i64.wrap ((1 : Int) + IntKind.i64.wrap (↑(s.getD (Int.toNat (0 : Int)) (0 : UInt8)).toNat : Int)) ≤ (↑s.length : Int) ∧ (↑s.length : Int) ≤ (↑s.length : Int)) ∧
      List.drop (Int.toNat (1 : Int)) (List.take (IntKind.i64.wrap ((1 : Int) + IntKind.i64.wrap (↑(s.getD (Int.toNat (0 : Int)) (0 : UInt8)).toNat : Int))).toNat s) = ((cutT s).getD ([], [])).fst ∧ List.drop (IntKind.i64.wrap ((1 : Int) + IntKind.i64.wrap (↑(s.getD (Int.toNat (0 : Int)) (0 : UInt8)).toNat : Int))).toNat (List.take (↑s.length : Int).toNat s) = ((cutT s).getD ([], [])).snd ∧ true = (cutT s).isSome ∧ True))) →
    vcF Try.prog St.none (specs es_cutT) [] (noAnn) Try.f28 [.ss s] (.tuple [.ss ((cutT s).getD ([], [])).1, .ss ((cutT s).getD ([], [])).2, .sb (cutT s).isSome]) := fun h => Eq.mpr (by kernel_rfl) h
set_option maxRecDepth 100000 in
theorem cutT_ct (s : List UInt8) (h : s.length ≤ 1000000) : Ct Try.prog St.none 28 [.ss s] (.tuple [.ss ((cutT s).getD ([], [])).1, .ss ((cutT s).getD ([], [])).2, .sb (cutT s).isSome]) := Ct.of_vcF (specs_ok es_cutT_ok) Try.func28 (by kernel_rfl) (cutT_vc s (by
  have e0 : List.map UInt8.ofNat (bs { data := #[] }) = [] := rfl
  simp only [e0, true_and, and_true, eq_self]
  cases s with
  | nil => simp [cutT]
  | cons b t =>
    have hb : b.toNat < 256 := b.toNat_lt
    have hl : t.length + 1 ≤ 1000000 := by simpa using h
    have eg : (b :: t).getD (Int.toNat 0) 0 = b := rfl
    have w1 : IntKind.i64.wrap (b.toNat : Int) = (b.toNat : Int) := wrap_i64 (by unfold I64; omega)
    have w2 : IntKind.i64.wrap (1 + (b.toNat : Int)) = ((1 + b.toNat : Nat) : Int) := by rw [wrap_i64 (by unfold I64; omega)]; omega
    rw [eg, w1, w2]
    refine ⟨fun c => by simp at c, fun _ => ⟨by simp, fun c => ?_, fun c => ?_⟩⟩
    · have c : ¬ b.toNat ≤ t.length := by have := of_decide_eq_true c; simp only [List.length_cons] at this; omega
      simp only [cutT, if_neg c]; exact ⟨rfl, rfl, rfl⟩
    · have c : b.toNat ≤ t.length := by have := of_decide_eq_false c; simp only [List.length_cons] at this; omega
      simp only [cutT, if_pos c, List.length_cons, Option.getD_some, Int.toNat_natCast]
      refine ⟨by omega, by omega, by omega, ?_, ?_, rfl⟩
      · rw [show 1 + b.toNat = b.toNat + 1 by omega]; rfl
      · rw [show 1 + b.toNat = b.toNat + 1 by omega, show t.length + 1 = (b :: t).length from rfl, List.take_length]; rfl))
noncomputable def e_cutT : Ent := ent1 28 tS (fun s => s.length ≤ 1000000) (fun s => .tuple [.ss ((cutT s).getD ([], [])).1, .ss ((cutT s).getD ([], [])).2, .sb (cutT s).isSome])
theorem cutT_ok : e_cutT.ok Try.prog St.none := ent1_ok fun s h => cutT_ct s h
theorem cutT_len {s : List UInt8} {p : List UInt8 × List UInt8} (h : cutT s = some p) : p.1.length + p.2.length + 1 = s.length := by
  unfold cutT at h
  cases s with
  | nil => cases h
  | cons b t =>
    simp only at h
    split at h
    · cases h; simp only [List.length_take, List.length_drop, List.length_cons]; omega
    · cases h
theorem page_bytes {a b : Nat} (ha : a < 2 ^ 8) (hb : b < 2 ^ 8) : IntKind.i64.wrap (BitVec.ofInt IntKind.i64.bits (IntKind.i64.wrap (IntKind.i64.wrap (a : Int) * 2 ^ min (Int.toNat 8) IntKind.i64.bits)) ||| BitVec.ofInt IntKind.i64.bits (IntKind.i64.wrap (b : Int))).toNat = ((a * 256 + b : Nat) : Int) := by
  have e : (2 : Int) ^ min (Int.toNat 8) IntKind.i64.bits = 256 := by decide
  rw [e, wrap_i64 (n := (a : Int)) (by unfold I64; omega), wrap_i64 (n := (b : Int)) (by unfold I64; omega), wrap_i64 (n := (a : Int) * 256) (by unfold I64; omega)]
  rw [BitVec.toNat_or]
  have e1 : (BitVec.ofInt IntKind.i64.bits ((a : Int) * 256)).toNat = a * 256 := by
    show (BitVec.ofInt 64 ((a : Int) * 256)).toNat = a * 256
    rw [BitVec.toNat_ofInt]; omega
  have e2 : (BitVec.ofInt IntKind.i64.bits (b : Int)).toNat = b := by
    show (BitVec.ofInt 64 (b : Int)).toNat = b
    rw [BitVec.toNat_ofInt]; omega
  rw [e1, e2]
  have : a * 256 ||| b = a * 256 + b := by
    have := Nat.two_pow_add_eq_or_of_lt (i := 8) hb a
    rw [show (2 : Nat) ^ 8 * a = a * 256 by omega] at this
    exact this.symm
  rw [this, wrap_i64 (by unfold I64; omega)]
def cutE (s : List UInt8) : Option (En × List UInt8) := match cutT s with
  | none => none
  | some (k, r) => match cutT r with
    | none => none
    | some (v, r) => some (⟨k, v⟩, r)
def cutB (s : List UInt8) : Option (Br × List UInt8) := match cutT s with
  | none => none
  | some (k, r) => match r with
    | a :: b :: r => some (⟨k, (a.toNat * 256 + b.toNat : Nat)⟩, r)
    | _ => none
noncomputable def es_cutE : List Ent := [e_cutT]
theorem es_cutE_ok : EntsOk Try.prog St.none es_cutE := ⟨cutT_ok, trivial⟩
set_option maxRecDepth 100000 in
theorem cutE_vc (s : List UInt8) :
    (s.length ≤ (1000000 : Nat) ∧ ((!(cutT s).isSome) = true → (List.map UInt8.ofNat (bs { data := #[] }) = ((cutE s).getD (en0, [])).fst.key ∧ List.map UInt8.ofNat (bs { data := #[] }) = ((cutE s).getD (en0, [])).fst.val ∧ True) ∧ List.map UInt8.ofNat (bs { data := #[] }) = ((cutE s).getD (en0, [])).snd ∧ false = (cutE s).isSome ∧ True) ∧ ((!(cutT s).isSome) = false → ((cutT s).getD ([], [])).snd.length ≤ (1000000 : Nat) ∧ ((!(cutT ((cutT s).getD ([], [])).snd).isSome) = true → (List.map UInt8.ofNat (bs { data := #[] }) = ((cutE s).getD (en0, [])).fst.key ∧ List.map UInt8.ofNat (bs { data := #[] }) = ((cutE s).getD (en0, [])).fst.val ∧ True) ∧ List.map UInt8.ofNat (bs { data := #[] }) = ((cutE s).getD (en0, [])).snd ∧ false = (cutE s).isSome ∧ True) ∧ ((!(cutT ((cutT s).getD ([], [])).snd).isSome) = false → (((cutT s).getD ([], [])).fst = ((cutE s).getD (en0, [])).fst.key ∧ ((cutT ((cutT s).getD ([], [])).snd).getD ([], [])).fst = ((cutE s).getD (en0, [])).fst.val ∧ True) ∧ ((cutT ((cutT s).getD ([], [])).snd).getD ([], [])).snd = ((cutE s).getD (en0, [])).snd ∧ true = (cutE s).isSome ∧ True))) →
    vcF Try.prog St.none (specs es_cutE) [] (noAnn) Try.f16 [.ss s] (.tuple [((cutE s).getD (en0, [])).1.v, .ss ((cutE s).getD (en0, [])).2, .sb (cutE s).isSome]) := fun h => Eq.mpr (by kernel_rfl) h
set_option maxRecDepth 100000 in
theorem cutE_ct (s : List UInt8) (h : s.length ≤ 1000000) : Ct Try.prog St.none 16 [.ss s] (.tuple [((cutE s).getD (en0, [])).1.v, .ss ((cutE s).getD (en0, [])).2, .sb (cutE s).isSome]) := Ct.of_vcF (specs_ok es_cutE_ok) Try.func16 (by kernel_rfl) (cutE_vc s (by
  have e0 : List.map UInt8.ofNat (bs { data := #[] }) = [] := rfl
  simp only [e0, true_and, and_true, eq_self]
  have hle : ∀ p : List UInt8 × List UInt8, cutT s = some p → p.2.length ≤ s.length := fun p hp => by
    have := cutT_len hp; omega
  refine ⟨h, fun c => ?_, fun c => ⟨?_, fun d => ?_, fun d => ?_⟩⟩
  · cases hc : cutT s with
    | none => simp [cutE, hc, en0]
    | some p => rw [hc] at c; simp at c
  · cases hc : cutT s with
    | none => simp
    | some p => have := hle p hc; simp only [Option.getD_some]; omega
  · cases hc : cutT s with
    | none => rw [hc] at c; simp at c
    | some p =>
      obtain ⟨k, r⟩ := p
      rw [hc] at d
      simp only [Option.getD_some] at d
      cases hd : cutT r with
      | none => simp [cutE, hc, hd, en0]
      | some q => rw [hd] at d; simp at d
  · cases hc : cutT s with
    | none => rw [hc] at c; simp at c
    | some p =>
      obtain ⟨k, r⟩ := p
      rw [hc] at d
      simp only [Option.getD_some] at d
      cases hd : cutT r with
      | none => rw [hd] at d; simp at d
      | some q => simp [cutE, hc, hd]))
noncomputable def e_cutE : Ent := ent1 16 tS (fun s => s.length ≤ 1000000) (fun s => .tuple [((cutE s).getD (en0, [])).1.v, .ss ((cutE s).getD (en0, [])).2, .sb (cutE s).isSome])
theorem cutE_ok : e_cutE.ok Try.prog St.none := ent1_ok fun s h => cutE_ct s h
noncomputable def es_cutB : List Ent := [e_cutT]
theorem es_cutB_ok : EntsOk Try.prog St.none es_cutB := ⟨cutT_ok, trivial⟩
set_option maxRecDepth 100000 in
theorem cutB_vc (s : List UInt8) :
    (s.length ≤ (1000000 : Nat) ∧ ((!(cutT s).isSome) = true → (List.map UInt8.ofNat (bs { data := #[] }) = ((cutB s).getD (br0, [])).fst.key ∧ (0 : Int) = ((cutB s).getD (br0, [])).fst.page ∧ True) ∧ List.map UInt8.ofNat (bs { data := #[] }) = ((cutB s).getD (br0, [])).snd ∧ false = (cutB s).isSome ∧ True) ∧ ((!(cutT s).isSome) = false → (decide ((↑((cutT s).getD ([], [])).snd.length : Int) < (2 : Int)) = true → (List.map UInt8.ofNat (bs { data := #[] }) = ((cutB s).getD (br0, [])).fst.key ∧ (0 : Int) = ((cutB s).getD (br0, [])).fst.page ∧ True) ∧ List.map UInt8.ofNat (bs { data := #[] }) = ((cutB s).getD (br0, [])).snd ∧ false = (cutB s).isSome ∧ True) ∧ (decide ((↑((cutT s).getD ([], [])).snd.length : Int) < (2 : Int)) = false → ((0 : Int) ≤ (0 : Int) ∧ (0 : Int) < (↑((cutT s).getD ([], [])).snd.length : Int)) ∧ (0 : Int) ≤ (8 : Int) ∧ ((0 : Int) ≤ (1 : Int) ∧ (1 : Int) < (↑((cutT s).getD ([], [])).snd.length : Int)) ∧ ((0 : Int) ≤ (2 : Int) ∧ (2 : Int) ≤ (↑((cutT s).getD ([], [])).snd.length : Int) ∧ (↑((cutT s).getD ([], [])).snd.length : Int) ≤ (↑((cutT s).getD ([], [])).snd.length : Int)) ∧ (((cutT s).getD ([], [])).fst = ((cutB s).getD (br0, [])).fst.key ∧
      IntKind.i64.wrap (↑(BitVec.ofInt IntKind.i64.bits (IntKind.i64.wrap (IntKind.i64.wrap (↑(((cutT s).getD ([], [])).snd.getD (Int.toNat (0 : Int)) (0 : UInt8)).toNat : Int) * (2 : Int) ^ min (Int.toNat (8 : Int)) IntKind.i64.bits)) ||| BitVec.ofInt IntKind.i64.bits (IntKind.i64.wrap (↑(((cutT s).getD ([], [])).snd.getD (Int.toNat (1 : Int)) (0 : UInt8)).toNat : Int))).toNat : Int) = ((cutB s).getD (br0, [])).fst.page ∧ True) ∧ List.drop (Int.toNat (2 : Int)) (List.take (↑((cutT s).getD ([], [])).snd.length : Int).toNat ((cutT s).getD ([], [])).snd) = ((cutB s).getD (br0, [])).snd ∧ true = (cutB s).isSome ∧ True))) →
    vcF Try.prog St.none (specs es_cutB) [] (noAnn) Try.f17 [.ss s] (.tuple [((cutB s).getD (br0, [])).1.v, .ss ((cutB s).getD (br0, [])).2, .sb (cutB s).isSome]) := fun h => Eq.mpr (by kernel_rfl) h
set_option maxRecDepth 100000 in
theorem cutB_ct (s : List UInt8) (h : s.length ≤ 1000000) : Ct Try.prog St.none 17 [.ss s] (.tuple [((cutB s).getD (br0, [])).1.v, .ss ((cutB s).getD (br0, [])).2, .sb (cutB s).isSome]) := Ct.of_vcF (specs_ok es_cutB_ok) Try.func17 (by kernel_rfl) (cutB_vc s (by
  have e0 : List.map UInt8.ofNat (bs { data := #[] }) = [] := rfl
  simp only [e0, true_and, and_true, eq_self]
  refine ⟨h, fun c => ?_, fun c => ⟨fun d => ?_, fun d => ?_⟩⟩
  · cases hc : cutT s with
    | none => simp [cutB, hc, br0]
    | some p => rw [hc] at c; simp at c
  · cases hc : cutT s with
    | none => rw [hc] at c; simp at c
    | some p =>
      obtain ⟨k, r⟩ := p
      rw [hc] at d
      simp only [Option.getD_some] at d
      match r, d with
      | [], _ => simp [cutB, hc, br0]
      | [x], _ => simp [cutB, hc, br0]
      | x :: y :: r, d => have := of_decide_eq_true d; simp only [List.length_cons] at this; omega
  · cases hc : cutT s with
    | none => rw [hc] at c; simp at c
    | some p =>
      obtain ⟨k, r⟩ := p
      rw [hc] at d
      simp only [Option.getD_some] at d ⊢
      match r, d with
      | [], d => have := of_decide_eq_false d; simp at this
      | [x], d => have := of_decide_eq_false d; simp at this
      | x :: y :: r, d =>
        have e : cutB s = some (⟨k, (x.toNat * 256 + y.toNat : Nat)⟩, r) := by simp [cutB, hc]
        rw [e]
        have ex : (x :: y :: r).getD (Int.toNat 0) 0 = x := rfl
        have ey : (x :: y :: r).getD (Int.toNat 1) 0 = y := rfl
        rw [ex, ey]
        have h1 := x.toNat_lt
        have h2 := y.toNat_lt
        simp only [List.length_cons, Option.getD_some, Int.toNat_natCast]
        refine ⟨by omega, by decide, by omega, by omega, ?_, ?_, ?_⟩
        all_goals first | exact ⟨trivial, page_bytes h1 h2⟩ | exact ⟨rfl, page_bytes h1 h2⟩ | exact page_bytes h1 h2 | (simp; done) | rfl | trivial))
noncomputable def e_cutB : Ent := ent1 17 tS (fun s => s.length ≤ 1000000) (fun s => .tuple [((cutB s).getD (br0, [])).1.v, .ss ((cutB s).getD (br0, [])).2, .sb (cutB s).isSome])
theorem cutB_ok : e_cutB.ok Try.prog St.none := ent1_ok fun s h => cutB_ct s h
instance decEqEn : DecidableEq En := fun a b => decidable_of_iff (a.key = b.key ∧ a.val = b.val) ⟨fun h => by cases a; cases b; simp only [En.mk.injEq]; exact h, fun h => by subst h; exact ⟨rfl, rfl⟩⟩
instance decEqBr : DecidableEq Br := fun a b => decidable_of_iff (a.key = b.key ∧ a.page = b.page) ⟨fun h => by cases a; cases b; simp only [Br.mk.injEq]; exact h, fun h => by subst h; exact ⟨rfl, rfl⟩⟩
def eqPre {α : Type} (L M : List α) (d : α) (i : Nat) : Prop := i ≤ L.length ∧ ∀ k, k < i → L.getD k d = M.getD k d
theorem ext_getD {α : Type} {L M : List α} (d : α) (h : L.length = M.length) (k : ∀ i, i < L.length → L.getD i d = M.getD i d) : L = M := by
  apply List.ext_getElem h
  intro i h1 h2
  have := k i h1
  rwa [List.getD_eq_getElem?_getD, List.getD_eq_getElem?_getD, List.getElem?_eq_getElem h1, List.getElem?_eq_getElem h2] at this
theorem en_ext {a b : En} (h : a.key = b.key) (k : a.val = b.val) : a = b := by cases a; cases b; simp_all
theorem br_ext {a b : Br} (h : a.key = b.key) (k : a.page = b.page) : a = b := by cases a; cases b; simp_all
noncomputable def es_eqE : List Ent := []
theorem es_eqE_ok : EntsOk Try.prog St.none es_eqE := trivial
set_option maxRecDepth 100000 in
theorem eqE_vc (L M : List En) :
    (((!decide ((↑L.length : Int) = (↑M.length : Int))) = true → false = decide (L = M)) ∧ ((!decide ((↑L.length : Int) = (↑M.length : Int))) = false → (∃ (a : Nat), (a ≤ L.length ∧ ∀ (k : Nat), k < a → L.getD k en0 = M.getD k en0) ∧ True ∧ ((True ∧ L.length = L.length ∧ True ∧ ∀ (i : Nat), i < L.length → (L.getD i en0).key = (L.getD i en0).key ∧ (L.getD i en0).val = (L.getD i en0).val ∧ True) ∧ (True ∧ M.length = M.length ∧ True ∧ ∀ (i : Nat), i < M.length → (M.getD i en0).key = (M.getD i en0).key ∧ (M.getD i en0).val = (M.getD i en0).val ∧ True) ∧ (0 : Int) = (↑a : Int) ∧ (↑L.length : Int) = (↑L.length : Int)) ∧ True) ∧ ∀ (a : Nat), (a ≤ L.length ∧ ∀ (k : Nat), k < a → L.getD k en0 = M.getD k en0) → (decide ((↑a : Int) < (↑L.length : Int)) = true → ((0 : Int) ≤ (↑a : Int) ∧ (↑a : Int) < (↑L.length : Int)) ∧ ((0 : Int) ≤ (↑a : Int) ∧ (↑a : Int) < (↑M.length : Int)) ∧ ((!(decide ((L.getD (↑a : Int).toNat en0).key = (M.getD (↑a : Int).toNat en0).key) && (decide ((L.getD (↑a : Int).toNat en0).val = (M.getD (↑a : Int).toNat en0).val) && true))) = true → false = decide (L = M)) ∧ ((!(decide ((L.getD (↑a : Int).toNat en0).key = (M.getD (↑a : Int).toNat en0).key) && (decide ((L.getD (↑a : Int).toNat en0).val = (M.getD (↑a : Int).toNat en0).val) && true))) = false → ∃ (a' : Nat), (a' ≤ L.length ∧ ∀ (k : Nat), k < a' → L.getD k en0 = M.getD k en0) ∧ L.length - a' < L.length - a ∧ True ∧ ((True ∧ L.length = L.length ∧ True ∧ ∀ (i : Nat), i < L.length →
      (L.getD i en0).key = (L.getD i en0).key ∧ (L.getD i en0).val = (L.getD i en0).val ∧ True) ∧ (True ∧ M.length = M.length ∧ True ∧ ∀ (i : Nat), i < M.length → (M.getD i en0).key = (M.getD i en0).key ∧ (M.getD i en0).val = (M.getD i en0).val ∧ True) ∧ IntKind.i64.wrap ((↑a : Int) + (1 : Int)) = (↑a' : Int) ∧ (↑L.length : Int) = (↑L.length : Int)) ∧ True)) ∧ (decide ((↑a : Int) < (↑L.length : Int)) = false → true = decide (L = M)))) →
    vcF Try.prog St.none (specs es_eqE) [] (({ loops := loopsAt [(4, { α := Nat, inv := fun i fm st => ({ fm with tm := fm.tm.set 13 (some (.si .i64 (i : Int))) }, st), pre := fun i => eqPre L M en0 i, mu := fun i => L.length - i })] } : Ann)) Try.f18 [lE L, lE M] (.sb (decide (L = M))) := fun h => Eq.mpr (by kernel_rfl) h
set_option maxRecDepth 100000 in
theorem eqE_ct (L M : List En) (hL : L.length ≤ 4000000000000) : Ct Try.prog St.none 18 [lE L, lE M] (.sb (decide (L = M))) := Ct.of_vcF (specs_ok es_eqE_ok) Try.func18 (by kernel_rfl) (eqE_vc L M (by
  simp only [true_and, and_true, eq_self, implies_true, and_self, Int.toNat_natCast]
  refine ⟨fun c => ?_, fun c => ?_⟩
  · have c : ¬ L.length = M.length := by simp at c; omega
    exact (decide_eq_false fun e => c (by rw [e])).symm
  · have c : L.length = M.length := by simp at c; omega
    refine ⟨⟨0, ⟨Nat.zero_le _, fun k hk => absurd hk (by omega)⟩, rfl⟩, fun a ha => ⟨fun h => ?_, fun h => ?_⟩⟩
    · obtain ⟨h1, h2⟩ := ha
      have hlt : a < L.length := by have := of_decide_eq_true h; omega
      refine ⟨⟨nn a, by omega⟩, ⟨nn a, by omega⟩, fun d => ?_, fun d => ⟨a + 1, ⟨hlt, fun k hk => ?_⟩, by omega, wr1 hlt hL⟩⟩
      · refine (decide_eq_false fun e => ?_).symm
        subst e; simp at d
      · by_cases e : k = a
        · subst e; simp at d; exact en_ext d.1 d.2
        · exact h2 k (by omega)
    · obtain ⟨h1, h2⟩ := ha
      have : a = L.length := by have := of_decide_eq_false h; omega
      subst this
      exact (decide_eq_true (ext_getD en0 c h2)).symm))
noncomputable def e_eqE : Ent := entC2 18 (tL 2 decEn En.v en0) (tL 2 decEn En.v en0) (fun L _ => L.length ≤ 4000000000000) (fun L M => .sb (decide (L = M)))
theorem eqE_ok : e_eqE.ok Try.prog St.none := entC2_ok fun L M h => eqE_ct L M h
noncomputable def es_eqB : List Ent := []
theorem es_eqB_ok : EntsOk Try.prog St.none es_eqB := trivial
set_option maxRecDepth 100000 in
theorem eqB_vc (L M : List Br) :
    (((!decide ((↑L.length : Int) = (↑M.length : Int))) = true → false = decide (L = M)) ∧ ((!decide ((↑L.length : Int) = (↑M.length : Int))) = false → (∃ (a : Nat), (a ≤ L.length ∧ ∀ (k : Nat), k < a → L.getD k br0 = M.getD k br0) ∧ True ∧ ((True ∧ L.length = L.length ∧ True ∧ ∀ (i : Nat), i < L.length → (L.getD i br0).key = (L.getD i br0).key ∧ (L.getD i br0).page = (L.getD i br0).page ∧ True) ∧ (True ∧ M.length = M.length ∧ True ∧ ∀ (i : Nat), i < M.length → (M.getD i br0).key = (M.getD i br0).key ∧ (M.getD i br0).page = (M.getD i br0).page ∧ True) ∧ (0 : Int) = (↑a : Int) ∧ (↑L.length : Int) = (↑L.length : Int)) ∧ True) ∧ ∀ (a : Nat), (a ≤ L.length ∧ ∀ (k : Nat), k < a → L.getD k br0 = M.getD k br0) → (decide ((↑a : Int) < (↑L.length : Int)) = true → ((0 : Int) ≤ (↑a : Int) ∧ (↑a : Int) < (↑L.length : Int)) ∧ ((0 : Int) ≤ (↑a : Int) ∧ (↑a : Int) < (↑M.length : Int)) ∧ ((!(decide ((L.getD (↑a : Int).toNat br0).key = (M.getD (↑a : Int).toNat br0).key) && (decide ((L.getD (↑a : Int).toNat br0).page = (M.getD (↑a : Int).toNat br0).page) && true))) = true → false = decide (L = M)) ∧ ((!(decide ((L.getD (↑a : Int).toNat br0).key = (M.getD (↑a : Int).toNat br0).key) && (decide ((L.getD (↑a : Int).toNat br0).page = (M.getD (↑a : Int).toNat br0).page) && true))) = false → ∃ (a' : Nat), (a' ≤ L.length ∧ ∀ (k : Nat), k < a' → L.getD k br0 = M.getD k br0) ∧ L.length - a' < L.length - a ∧ True ∧ ((True ∧ L.length = L.length ∧ True ∧ ∀ (i : Nat), i < L.length →
      (L.getD i br0).key = (L.getD i br0).key ∧ (L.getD i br0).page = (L.getD i br0).page ∧ True) ∧ (True ∧ M.length = M.length ∧ True ∧ ∀ (i : Nat), i < M.length → (M.getD i br0).key = (M.getD i br0).key ∧ (M.getD i br0).page = (M.getD i br0).page ∧ True) ∧ IntKind.i64.wrap ((↑a : Int) + (1 : Int)) = (↑a' : Int) ∧ (↑L.length : Int) = (↑L.length : Int)) ∧ True)) ∧ (decide ((↑a : Int) < (↑L.length : Int)) = false → true = decide (L = M)))) →
    vcF Try.prog St.none (specs es_eqB) [] (({ loops := loopsAt [(4, { α := Nat, inv := fun i fm st => ({ fm with tm := fm.tm.set 13 (some (.si .i64 (i : Int))) }, st), pre := fun i => eqPre L M br0 i, mu := fun i => L.length - i })] } : Ann)) Try.f19 [lB L, lB M] (.sb (decide (L = M))) := fun h => Eq.mpr (by kernel_rfl) h
set_option maxRecDepth 100000 in
theorem eqB_ct (L M : List Br) (hL : L.length ≤ 4000000000000) : Ct Try.prog St.none 19 [lB L, lB M] (.sb (decide (L = M))) := Ct.of_vcF (specs_ok es_eqB_ok) Try.func19 (by kernel_rfl) (eqB_vc L M (by
  simp only [true_and, and_true, eq_self, implies_true, and_self, Int.toNat_natCast]
  refine ⟨fun c => ?_, fun c => ?_⟩
  · have c : ¬ L.length = M.length := by simp at c; omega
    exact (decide_eq_false fun e => c (by rw [e])).symm
  · have c : L.length = M.length := by simp at c; omega
    refine ⟨⟨0, ⟨Nat.zero_le _, fun k hk => absurd hk (by omega)⟩, rfl⟩, fun a ha => ⟨fun h => ?_, fun h => ?_⟩⟩
    · obtain ⟨h1, h2⟩ := ha
      have hlt : a < L.length := by have := of_decide_eq_true h; omega
      refine ⟨⟨nn a, by omega⟩, ⟨nn a, by omega⟩, fun d => ?_, fun d => ⟨a + 1, ⟨hlt, fun k hk => ?_⟩, by omega, wr1 hlt hL⟩⟩
      · refine (decide_eq_false fun e => ?_).symm
        subst e; simp at d
      · by_cases e : k = a
        · subst e; simp at d; exact br_ext d.1 d.2
        · exact h2 k (by omega)
    · obtain ⟨h1, h2⟩ := ha
      have : a = L.length := by have := of_decide_eq_false h; omega
      subst this
      exact (decide_eq_true (ext_getD br0 c h2)).symm))
noncomputable def e_eqB : Ent := entC2 19 (tL 2 decBr Br.v br0) (tL 2 decBr Br.v br0) (fun L _ => L.length ≤ 4000000000000) (fun L M => .sb (decide (L = M)))
theorem eqB_ok : e_eqB.ok Try.prog St.none := entC2_ok fun L M h => eqB_ct L M h
noncomputable def es_same : List Ent := [e_eqE, e_eqB]
theorem es_same_ok : EntsOk Try.prog St.none es_same := ⟨eqE_ok, eqB_ok, trivial⟩
set_option maxRecDepth 100000 in
theorem same_vc (x y : Nd) :
    (((x.leaf == y.leaf) = true → ((∀ (k : Nat), k < x.en.length → (x.en.getD k en0).key = (decEn (x.en.getD k en0).v).key ∧ (x.en.getD k en0).val = (decEn (x.en.getD k en0).v).val ∧ True) ∧ (∀ (k : Nat), k < y.en.length → (y.en.getD k en0).key = (decEn (y.en.getD k en0).v).key ∧ (y.en.getD k en0).val = (decEn (y.en.getD k en0).v).val ∧ True) ∧ (List.map (fun (k : Nat) => decEn (x.en.getD k en0).v) (List.range x.en.length)).length ≤ (4000000000000 : Nat)) ∧ (decide (List.map (fun (k : Nat) => decEn (x.en.getD k en0).v) (List.range x.en.length) = List.map (fun (k : Nat) => decEn (y.en.getD k en0).v) (List.range y.en.length)) = true → ((∀ (k : Nat), k < x.br.length → (x.br.getD k br0).key = (decBr (x.br.getD k br0).v).key ∧ (x.br.getD k br0).page = (decBr (x.br.getD k br0).v).page ∧ True) ∧ (∀ (k : Nat), k < y.br.length → (y.br.getD k br0).key = (decBr (y.br.getD k br0).v).key ∧ (y.br.getD k br0).page = (decBr (y.br.getD k br0).v).page ∧ True) ∧ (List.map (fun (k : Nat) => decBr (x.br.getD k br0).v) (List.range x.br.length)).length ≤ (4000000000000 : Nat)) ∧ decide (List.map (fun (k : Nat) => decBr (x.br.getD k br0).v) (List.range x.br.length) = List.map (fun (k : Nat) => decBr (y.br.getD k br0).v) (List.range y.br.length)) = (decide (x.leaf = y.leaf) && decide (x.en = y.en) && decide (x.br = y.br))) ∧
      (decide (List.map (fun (k : Nat) => decEn (x.en.getD k en0).v) (List.range x.en.length) = List.map (fun (k : Nat) => decEn (y.en.getD k en0).v) (List.range y.en.length)) = false → false = (decide (x.leaf = y.leaf) && decide (x.en = y.en) && decide (x.br = y.br)))) ∧ ((x.leaf == y.leaf) = false → false = (decide (x.leaf = y.leaf) && decide (x.en = y.en) && decide (x.br = y.br)))) →
    vcF Try.prog St.none (specs es_same) [] (noAnn) Try.f9 [x.v, y.v] (.sb (decide (x.leaf = y.leaf) && decide (x.en = y.en) && decide (x.br = y.br))) := fun h => Eq.mpr (by kernel_rfl) h
set_option maxRecDepth 100000 in
theorem same_ct (x y : Nd) (h1 : x.en.length ≤ 4000000000000) (h2 : x.br.length ≤ 4000000000000) : Ct Try.prog St.none 9 [x.v, y.v] (.sb (decide (x.leaf = y.leaf) && decide (x.en = y.en) && decide (x.br = y.br))) := Ct.of_vcF (specs_ok es_same_ok) Try.func9 (by kernel_rfl) (same_vc x y (by
  simp only [decEn_v, decBr_v, map_getD, true_and, and_true, eq_self, implies_true, and_self, Int.toNat_natCast]
  have hl : (x.leaf == y.leaf) = decide (x.leaf = y.leaf) := by cases x.leaf <;> cases y.leaf <;> rfl
  rw [hl]
  refine ⟨fun c => ⟨h1, fun d => ⟨h2, ?_⟩, fun d => ?_⟩, fun c => ?_⟩
  · rw [c, d]; simp
  · rw [c, d]; simp
  · rw [c]; simp))
noncomputable def e_same : Ent := entC2 9 (tD decNd Nd.v) (tD decNd Nd.v) (fun x _ => x.en.length ≤ 4000000000000 ∧ x.br.length ≤ 4000000000000) (fun x y => .sb (decide (x.leaf = y.leaf) && decide (x.en = y.en) && decide (x.br = y.br)))
theorem same_ok : e_same.ok Try.prog St.none := entC2_ok fun x y h => same_ct x y h.1 h.2
theorem cutE_len {s : List UInt8} {e : En} {r : List UInt8} (h : cutE s = some (e, r)) : r.length + 2 ≤ s.length := by
  unfold cutE at h
  split at h
  · cases h
  · rename_i k r1 h1
    have q1 := cutT_len h1
    split at h
    · cases h
    · rename_i v r2 h2
      have q2 := cutT_len h2
      cases h
      simp only at q1 q2; omega
theorem cutB_len {s : List UInt8} {e : Br} {r : List UInt8} (h : cutB s = some (e, r)) : r.length + 3 ≤ s.length := by
  unfold cutB at h
  split at h
  · cases h
  · rename_i k r1 h1
    have q1 := cutT_len h1
    split at h
    · cases h; simp only [List.length_cons] at q1; omega
    · cases h
def decEs (s : List UInt8) : Option (List En) := match s with
  | [] => some []
  | b :: t => match hc : cutE (b :: t) with
    | none => none
    | some (e, r) => (decEs r).map (e :: ·)
  termination_by s.length
  decreasing_by
    have := cutE_len hc
    omega
def decBs (s : List UInt8) : Option (List Br) := match s with
  | [] => some []
  | b :: t => match hc : cutB (b :: t) with
    | none => none
    | some (e, r) => (decBs r).map (e :: ·)
  termination_by s.length
  decreasing_by
    have := cutB_len hc
    omega
theorem decEs_nil : decEs [] = some [] := by rw [decEs]
theorem decEs_none {s : List UInt8} (h : s ≠ []) (hc : cutE s = none) : decEs s = none := by
  cases s with
  | nil => exact absurd rfl h
  | cons b t => rw [decEs]; split <;> simp_all
theorem decEs_some {s : List UInt8} {e : En} {r : List UInt8} (h : s ≠ []) (hc : cutE s = some (e, r)) : decEs s = (decEs r).map (e :: ·) := by
  cases s with
  | nil => exact absurd rfl h
  | cons b t => rw [decEs]; split <;> simp_all
theorem decBs_nil : decBs [] = some [] := by rw [decBs]
theorem decBs_none {s : List UInt8} (h : s ≠ []) (hc : cutB s = none) : decBs s = none := by
  cases s with
  | nil => exact absurd rfl h
  | cons b t => rw [decBs]; split <;> simp_all
theorem decBs_some {s : List UInt8} {e : Br} {r : List UInt8} (h : s ≠ []) (hc : cutB s = some (e, r)) : decBs s = (decBs r).map (e :: ·) := by
  cases s with
  | nil => exact absurd rfl h
  | cons b t => rw [decBs]; split <;> simp_all
def nd0 : Nd := ⟨false, [], []⟩
def finN (x : Option Nd) : Nd × Int := match x with
  | none => (nd0, 8)
  | some x => if mayN x then (x, 0) else (nd0, 4)
def decN (s : List UInt8) : Nd × Int :=
  if 254 < s.length then (nd0, 40) else match s with
    | [] => (nd0, 8)
    | b :: t => if b = 1 then finN ((decEs t).map fun L => ⟨true, L, []⟩)
      else if b = 2 then finN ((decBs t).map fun L => ⟨false, [], L⟩)
      else (nd0, 4)
/-- what a loop of Decode keeps: what was read, what is left, whether all was whole -/
structure DSt (α : Type) where
  L : List α
  r : List UInt8
  w : Bool
def setCell (st : St) (i k : Nat) (v : V) : St := match st.mem.get i with
  | some (.row n c o t p) => { st with mem := st.mem.set i (some (.row n (c.set k (some v)) o t p)) }
  | _ => st
def keepE (t : List UInt8) (a : DSt En) : Prop := a.L.length + a.r.length ≤ 1000000 ∧ (a.w = true → decEs t = (decEs a.r).map (a.L ++ ·)) ∧ (a.w = false → decEs t = none)
def keepB (t : List UInt8) (a : DSt Br) : Prop := a.L.length + a.r.length ≤ 1000000 ∧ (a.w = true → decBs t = (decBs a.r).map (a.L ++ ·)) ∧ (a.w = false → decBs t = none)
def nextE (a : DSt En) : DSt En := ⟨a.L ++ [((cutE a.r).getD (en0, [])).1], ((cutE a.r).getD (en0, [])).2, (cutE a.r).isSome⟩
def nextB (a : DSt Br) : DSt Br := ⟨a.L ++ [((cutB a.r).getD (br0, [])).1], ((cutB a.r).getD (br0, [])).2, (cutB a.r).isSome⟩
theorem keepE_next {t : List UInt8} {a : DSt En} (h : keepE t a) (hw : a.w = true) (hr : a.r ≠ []) : keepE t (nextE a) ∧ (nextE a).r.length + (nextE a).w.toNat < a.r.length + a.w.toNat := by
  obtain ⟨h1, h2, h3⟩ := h
  have hl : 1 ≤ a.r.length := List.length_pos_iff.2 hr
  unfold nextE
  cases hc : cutE a.r with
  | none =>
    refine ⟨⟨(by simp; omega), (fun c => by cases c), fun _ => ?_⟩, by simp [hw]⟩
    rw [h2 hw, decEs_none hr hc]; rfl
  | some p =>
    obtain ⟨e, r⟩ := p
    have := cutE_len hc
    refine ⟨⟨(by simp; omega), fun _ => ?_, (fun c => by cases c)⟩, (by simp [hw]; omega)⟩
    rw [h2 hw, decEs_some hr hc]
    simp [Option.map_map]
    rfl
theorem keepB_next {t : List UInt8} {a : DSt Br} (h : keepB t a) (hw : a.w = true) (hr : a.r ≠ []) : keepB t (nextB a) ∧ (nextB a).r.length + (nextB a).w.toNat < a.r.length + a.w.toNat := by
  obtain ⟨h1, h2, h3⟩ := h
  have hl : 1 ≤ a.r.length := List.length_pos_iff.2 hr
  unfold nextB
  cases hc : cutB a.r with
  | none =>
    refine ⟨⟨(by simp; omega), (fun c => by cases c), fun _ => ?_⟩, by simp [hw]⟩
    rw [h2 hw, decBs_none hr hc]; rfl
  | some p =>
    obtain ⟨e, r⟩ := p
    have := cutB_len hc
    refine ⟨⟨(by simp; omega), fun _ => ?_, (fun c => by cases c)⟩, (by simp [hw]; omega)⟩
    rw [h2 hw, decBs_some hr hc]
    simp [Option.map_map]
    rfl
theorem decNd_e (b : Bool) (L : List En) : decNd (.agg [.bool b, .ro false L.length 2 (fun k => (L.getD k en0).v), .nils]) = ⟨b, L, []⟩ := by
  show Nd.mk b (decLE (lE L)) [] = _
  rw [decLE_v]
theorem decNd_b (b : Bool) (L : List Br) : decNd (.agg [.bool b, .nils, .ro false L.length 2 (fun k => (L.getD k br0).v)]) = ⟨b, [], L⟩ := by
  show Nd.mk b [] (decLB (lB L)) = _
  rw [decLB_v]
theorem getD_left {α : Type} (A B : List α) (d : α) {k : Nat} (h : k < A.length) : A.getD k d = (A ++ B).getD k d := by
  simp only [List.getD_eq_getElem?_getD, List.getElem?_append_left h]
theorem getD_last {α : Type} (A : List α) (x d : α) : (A ++ [x]).getD A.length d = x := by
  simp [List.getD_eq_getElem?_getD]
noncomputable def es_dec : List Ent := [e_cutE, e_cutB, e_may]
theorem es_dec_ok : EntsOk Try.prog St.none es_dec := ⟨cutE_ok, cutB_ok, may_ok, trivial⟩
set_option maxRecDepth 100000 in
theorem dec_vc (s : List UInt8) :
    ((decide ((254 : Int) < (↑s.length : Int)) = true → (false = (decN s).fst.leaf ∧ ((decN s).fst.en.length = (0 : Nat) ∧ True) ∧ ((decN s).fst.br.length = (0 : Nat) ∧ True) ∧ True) ∧ (40 : Int) = (decN s).snd ∧ True) ∧ (decide ((254 : Int) < (↑s.length : Int)) = false → (decide (s = List.map UInt8.ofNat (bs { data := #[] })) = true → (false = (decN s).fst.leaf ∧ ((decN s).fst.en.length = (0 : Nat) ∧ True) ∧ ((decN s).fst.br.length = (0 : Nat) ∧ True) ∧ True) ∧ (8 : Int) = (decN s).snd ∧ True) ∧ (decide (s = List.map UInt8.ofNat (bs { data := #[] })) = false → ((0 : Int) ≤ (1 : Int) ∧ (1 : Int) ≤ (↑s.length : Int) ∧ (↑s.length : Int) ≤ (↑s.length : Int)) ∧ ((0 : Int) ≤ (0 : Int) ∧ (0 : Int) < (↑s.length : Int)) ∧ (decide ((↑(s.getD (Int.toNat (0 : Int)) (0 : UInt8)).toNat : Int) = (1 : Int)) = true → (∃ (a : DSt En), (a.L.length + a.r.length ≤ (1000000 : Nat) ∧ (a.w = true → decEs s.tail = Option.map (fun (x : List En) => a.L ++ x) (decEs a.r)) ∧ (a.w = false → decEs s.tail = none)) ∧ True ∧ ((0 : Int) = (0 : Int) ∧ true = a.w ∧ True ∧ True ∧ List.drop (Int.toNat (1 : Int)) (List.take (↑s.length : Int).toNat s) = a.r) ∧ (false = false ∧ True ∧ True) ∧ true = true ∧ a.L.length = (0 : Nat) ∧ True) ∧ ∀ (a : DSt En), a.L.length + a.r.length ≤ (1000000 : Nat) ∧ (a.w = true → decEs s.tail = Option.map (fun (x : List En) => a.L ++ x) (decEs a.r)) ∧ (a.w = false → decEs s.tail = none) → (a.w = true → ((!decide (a.r = List.map UInt8.ofNat (bs { data := #[] }))) = true →
      a.r.length ≤ (1000000 : Nat) ∧ (totN [some a.L.length] + totN (List.replicate (1 : Nat) none)) * nat_lit 32 ≤ (140737488355328 : Nat) ∧ ∃ (a' : DSt En), (a'.L.length + a'.r.length ≤ (1000000 : Nat) ∧ (a'.w = true → decEs s.tail = Option.map (fun (x : List En) => a'.L ++ x) (decEs a'.r)) ∧ (a'.w = false → decEs s.tail = none)) ∧ a'.r.length + a'.w.toNat < a.r.length + a.w.toNat ∧ True ∧ ((0 : Int) = (0 : Int) ∧ (cutE a.r).isSome = a'.w ∧ True ∧ True ∧ ((cutE a.r).getD (en0, [])).snd = a'.r) ∧ (false = false ∧ True ∧ True) ∧ (true = true ∧ (a.L.length + (1 : Nat) = a'.L.length ∧ (∀ (k : Nat), k < a.L.length → (a.L.getD k en0).key = (a'.L.getD k en0).key ∧ (a.L.getD k en0).val = (a'.L.getD k en0).val ∧ True) ∧ (((cutE a.r).getD (en0, [])).fst.key = (a'.L.getD a.L.length en0).key ∧ ((cutE a.r).getD (en0, [])).fst.val = (a'.L.getD a.L.length en0).val ∧ True) ∧ True) ∧ True) ∧ True) ∧ ((!decide (a.r = List.map UInt8.ofNat (bs { data := #[] }))) = false → ((!a.w) = true → (false = (decN s).fst.leaf ∧ ((decN s).fst.en.length = (0 : Nat) ∧ True) ∧ ((decN s).fst.br.length = (0 : Nat) ∧ True) ∧ True) ∧ (8 : Int) = (decN s).snd ∧ True) ∧ ((!a.w) = false → ((true = (decNd (V.agg [V.bool true, V.ro false a.L.length (2 : Nat) ((fun (x k : Nat) => (a.L.getD k en0).v) (0 : Nat)), V.nils])).leaf ∧ (True ∧ a.L.length = (decNd (V.agg [V.bool true, V.ro false a.L.length (2 : Nat) ((fun (x k : Nat) => (a.L.getD k en0).v) (0 : Nat)), V.nils])).en.length ∧ True ∧
      ∀ (i : Nat), i < (decNd (V.agg [V.bool true, V.ro false a.L.length (2 : Nat) ((fun (x k : Nat) => (a.L.getD k en0).v) (0 : Nat)), V.nils])).en.length → (a.L.getD i en0).key = ((decNd (V.agg [V.bool true, V.ro false a.L.length (2 : Nat) ((fun (x k : Nat) => (a.L.getD k en0).v) (0 : Nat)), V.nils])).en.getD i en0).key ∧ (a.L.getD i en0).val = ((decNd (V.agg [V.bool true, V.ro false a.L.length (2 : Nat) ((fun (x k : Nat) => (a.L.getD k en0).v) (0 : Nat)), V.nils])).en.getD i en0).val ∧ True) ∧ ((decNd (V.agg [V.bool true, V.ro false a.L.length (2 : Nat) ((fun (x k : Nat) => (a.L.getD k en0).v) (0 : Nat)), V.nils])).br.length = (0 : Nat) ∧ True) ∧ True) ∧ (decNd (V.agg [V.bool true, V.ro false a.L.length (2 : Nat) ((fun (x k : Nat) => (a.L.getD k en0).v) (0 : Nat)), V.nils])).en.length ≤ (4000000000000 : Nat) ∧ (decNd (V.agg [V.bool true, V.ro false a.L.length (2 : Nat) ((fun (x k : Nat) => (a.L.getD k en0).v) (0 : Nat)), V.nils])).br.length ≤ (4000000000000 : Nat)) ∧ ((!mayN (decNd (V.agg [V.bool true, V.ro false a.L.length (2 : Nat) ((fun (x k : Nat) => (a.L.getD k en0).v) (0 : Nat)), V.nils]))) = true → (false = (decN s).fst.leaf ∧ ((decN s).fst.en.length = (0 : Nat) ∧ True) ∧ ((decN s).fst.br.length = (0 : Nat) ∧ True) ∧ True) ∧ (4 : Int) = (decN s).snd ∧ True) ∧ ((!mayN (decNd (V.agg [V.bool true, V.ro false a.L.length (2 : Nat) ((fun (x k : Nat) => (a.L.getD k en0).v) (0 : Nat)), V.nils]))) = false → (true = (decN s).fst.leaf ∧ (True ∧ a.L.length = (decN s).fst.en.length ∧
      True ∧ ∀ (i : Nat), i < (decN s).fst.en.length → (a.L.getD i en0).key = ((decN s).fst.en.getD i en0).key ∧ (a.L.getD i en0).val = ((decN s).fst.en.getD i en0).val ∧ True) ∧ ((decN s).fst.br.length = (0 : Nat) ∧ True) ∧ True) ∧ (0 : Int) = (decN s).snd ∧ True)))) ∧ (a.w = false → ((!a.w) = true → (false = (decN s).fst.leaf ∧ ((decN s).fst.en.length = (0 : Nat) ∧ True) ∧ ((decN s).fst.br.length = (0 : Nat) ∧ True) ∧ True) ∧ (8 : Int) = (decN s).snd ∧ True) ∧ ((!a.w) = false → ((true = (decNd (V.agg [V.bool true, V.ro false a.L.length (2 : Nat) ((fun (x k : Nat) => (a.L.getD k en0).v) (0 : Nat)), V.nils])).leaf ∧ (True ∧ a.L.length = (decNd (V.agg [V.bool true, V.ro false a.L.length (2 : Nat) ((fun (x k : Nat) => (a.L.getD k en0).v) (0 : Nat)), V.nils])).en.length ∧ True ∧ ∀ (i : Nat), i < (decNd (V.agg [V.bool true, V.ro false a.L.length (2 : Nat) ((fun (x k : Nat) => (a.L.getD k en0).v) (0 : Nat)), V.nils])).en.length → (a.L.getD i en0).key = ((decNd (V.agg [V.bool true, V.ro false a.L.length (2 : Nat) ((fun (x k : Nat) => (a.L.getD k en0).v) (0 : Nat)), V.nils])).en.getD i en0).key ∧ (a.L.getD i en0).val = ((decNd (V.agg [V.bool true, V.ro false a.L.length (2 : Nat) ((fun (x k : Nat) => (a.L.getD k en0).v) (0 : Nat)), V.nils])).en.getD i en0).val ∧ True) ∧ ((decNd (V.agg [V.bool true, V.ro false a.L.length (2 : Nat) ((fun (x k : Nat) => (a.L.getD k en0).v) (0 : Nat)), V.nils])).br.length = (0 : Nat) ∧ True) ∧ True) ∧
      (decNd (V.agg [V.bool true, V.ro false a.L.length (2 : Nat) ((fun (x k : Nat) => (a.L.getD k en0).v) (0 : Nat)), V.nils])).en.length ≤ (4000000000000 : Nat) ∧ (decNd (V.agg [V.bool true, V.ro false a.L.length (2 : Nat) ((fun (x k : Nat) => (a.L.getD k en0).v) (0 : Nat)), V.nils])).br.length ≤ (4000000000000 : Nat)) ∧ ((!mayN (decNd (V.agg [V.bool true, V.ro false a.L.length (2 : Nat) ((fun (x k : Nat) => (a.L.getD k en0).v) (0 : Nat)), V.nils]))) = true → (false = (decN s).fst.leaf ∧ ((decN s).fst.en.length = (0 : Nat) ∧ True) ∧ ((decN s).fst.br.length = (0 : Nat) ∧ True) ∧ True) ∧ (4 : Int) = (decN s).snd ∧ True) ∧ ((!mayN (decNd (V.agg [V.bool true, V.ro false a.L.length (2 : Nat) ((fun (x k : Nat) => (a.L.getD k en0).v) (0 : Nat)), V.nils]))) = false → (true = (decN s).fst.leaf ∧ (True ∧ a.L.length = (decN s).fst.en.length ∧ True ∧ ∀ (i : Nat), i < (decN s).fst.en.length → (a.L.getD i en0).key = ((decN s).fst.en.getD i en0).key ∧ (a.L.getD i en0).val = ((decN s).fst.en.getD i en0).val ∧ True) ∧ ((decN s).fst.br.length = (0 : Nat) ∧ True) ∧ True) ∧ (0 : Int) = (decN s).snd ∧ True)))) ∧ (decide ((↑(s.getD (Int.toNat (0 : Int)) (0 : UInt8)).toNat : Int) = (1 : Int)) = false → (decide ((↑(s.getD (Int.toNat (0 : Int)) (0 : UInt8)).toNat : Int) = (2 : Int)) = true → (∃ (a : DSt Br), (a.L.length + a.r.length ≤ (1000000 : Nat) ∧ (a.w = true → decBs s.tail = Option.map (fun (x : List Br) => a.L ++ x) (decBs a.r)) ∧ (a.w = false → decBs s.tail = none)) ∧ True ∧
      ((0 : Int) = (0 : Int) ∧ true = a.w ∧ True ∧ True ∧ List.drop (Int.toNat (1 : Int)) (List.take (↑s.length : Int).toNat s) = a.r) ∧ (false = false ∧ True ∧ True) ∧ false = false ∧ True ∧ a.L.length = (0 : Nat)) ∧ ∀ (a : DSt Br), a.L.length + a.r.length ≤ (1000000 : Nat) ∧ (a.w = true → decBs s.tail = Option.map (fun (x : List Br) => a.L ++ x) (decBs a.r)) ∧ (a.w = false → decBs s.tail = none) → (a.w = true → ((!decide (a.r = List.map UInt8.ofNat (bs { data := #[] }))) = true → a.r.length ≤ (1000000 : Nat) ∧ (totN [some a.L.length] + totN (List.replicate (1 : Nat) none)) * nat_lit 24 ≤ (140737488355328 : Nat) ∧ ∃ (a' : DSt Br), (a'.L.length + a'.r.length ≤ (1000000 : Nat) ∧ (a'.w = true → decBs s.tail = Option.map (fun (x : List Br) => a'.L ++ x) (decBs a'.r)) ∧ (a'.w = false → decBs s.tail = none)) ∧ a'.r.length + a'.w.toNat < a.r.length + a.w.toNat ∧ True ∧ ((0 : Int) = (0 : Int) ∧ (cutB a.r).isSome = a'.w ∧ True ∧ True ∧ ((cutB a.r).getD (br0, [])).snd = a'.r) ∧ (false = false ∧ True ∧ True) ∧ (false = false ∧ True ∧ a.L.length + (1 : Nat) = a'.L.length ∧ (∀ (k : Nat), k < a.L.length → (a.L.getD k br0).key = (a'.L.getD k br0).key ∧ (a.L.getD k br0).page = (a'.L.getD k br0).page ∧ True) ∧ (((cutB a.r).getD (br0, [])).fst.key = (a'.L.getD a.L.length br0).key ∧ ((cutB a.r).getD (br0, [])).fst.page = (a'.L.getD a.L.length br0).page ∧ True) ∧ True) ∧ True) ∧ ((!decide (a.r = List.map UInt8.ofNat (bs { data := #[] }))) = false → ((!a.w) = true → (false = (decN s).fst.leaf ∧
      ((decN s).fst.en.length = (0 : Nat) ∧ True) ∧ ((decN s).fst.br.length = (0 : Nat) ∧ True) ∧ True) ∧ (8 : Int) = (decN s).snd ∧ True) ∧ ((!a.w) = false → ((false = (decNd (V.agg [V.bool false, V.nils, V.ro false a.L.length (2 : Nat) ((fun (x k : Nat) => (a.L.getD k br0).v) (0 : Nat))])).leaf ∧ ((decNd (V.agg [V.bool false, V.nils, V.ro false a.L.length (2 : Nat) ((fun (x k : Nat) => (a.L.getD k br0).v) (0 : Nat))])).en.length = (0 : Nat) ∧ True) ∧ (True ∧ a.L.length = (decNd (V.agg [V.bool false, V.nils, V.ro false a.L.length (2 : Nat) ((fun (x k : Nat) => (a.L.getD k br0).v) (0 : Nat))])).br.length ∧ True ∧ ∀ (i : Nat), i < (decNd (V.agg [V.bool false, V.nils, V.ro false a.L.length (2 : Nat) ((fun (x k : Nat) => (a.L.getD k br0).v) (0 : Nat))])).br.length → (a.L.getD i br0).key = ((decNd (V.agg [V.bool false, V.nils, V.ro false a.L.length (2 : Nat) ((fun (x k : Nat) => (a.L.getD k br0).v) (0 : Nat))])).br.getD i br0).key ∧ (a.L.getD i br0).page = ((decNd (V.agg [V.bool false, V.nils, V.ro false a.L.length (2 : Nat) ((fun (x k : Nat) => (a.L.getD k br0).v) (0 : Nat))])).br.getD i br0).page ∧ True) ∧ True) ∧ (decNd (V.agg [V.bool false, V.nils, V.ro false a.L.length (2 : Nat) ((fun (x k : Nat) => (a.L.getD k br0).v) (0 : Nat))])).en.length ≤ (4000000000000 : Nat) ∧ (decNd (V.agg [V.bool false, V.nils, V.ro false a.L.length (2 : Nat) ((fun (x k : Nat) => (a.L.getD k br0).v) (0 : Nat))])).br.length ≤ (4000000000000 : Nat)) ∧
      ((!mayN (decNd (V.agg [V.bool false, V.nils, V.ro false a.L.length (2 : Nat) ((fun (x k : Nat) => (a.L.getD k br0).v) (0 : Nat))]))) = true → (false = (decN s).fst.leaf ∧ ((decN s).fst.en.length = (0 : Nat) ∧ True) ∧ ((decN s).fst.br.length = (0 : Nat) ∧ True) ∧ True) ∧ (4 : Int) = (decN s).snd ∧ True) ∧ ((!mayN (decNd (V.agg [V.bool false, V.nils, V.ro false a.L.length (2 : Nat) ((fun (x k : Nat) => (a.L.getD k br0).v) (0 : Nat))]))) = false → (false = (decN s).fst.leaf ∧ ((decN s).fst.en.length = (0 : Nat) ∧ True) ∧ (True ∧ a.L.length = (decN s).fst.br.length ∧ True ∧ ∀ (i : Nat), i < (decN s).fst.br.length → (a.L.getD i br0).key = ((decN s).fst.br.getD i br0).key ∧ (a.L.getD i br0).page = ((decN s).fst.br.getD i br0).page ∧ True) ∧ True) ∧ (0 : Int) = (decN s).snd ∧ True)))) ∧ (a.w = false → ((!a.w) = true → (false = (decN s).fst.leaf ∧ ((decN s).fst.en.length = (0 : Nat) ∧ True) ∧ ((decN s).fst.br.length = (0 : Nat) ∧ True) ∧ True) ∧ (8 : Int) = (decN s).snd ∧ True) ∧ ((!a.w) = false → ((false = (decNd (V.agg [V.bool false, V.nils, V.ro false a.L.length (2 : Nat) ((fun (x k : Nat) => (a.L.getD k br0).v) (0 : Nat))])).leaf ∧ ((decNd (V.agg [V.bool false, V.nils, V.ro false a.L.length (2 : Nat) ((fun (x k : Nat) => (a.L.getD k br0).v) (0 : Nat))])).en.length = (0 : Nat) ∧ True) ∧ (True ∧ a.L.length = (decNd (V.agg [V.bool false, V.nils, V.ro false a.L.length (2 : Nat) ((fun (x k : Nat) => (a.L.getD k br0).v) (0 : Nat))])).br.length ∧ True ∧
      ∀ (i : Nat), i < (decNd (V.agg [V.bool false, V.nils, V.ro false a.L.length (2 : Nat) ((fun (x k : Nat) => (a.L.getD k br0).v) (0 : Nat))])).br.length → (a.L.getD i br0).key = ((decNd (V.agg [V.bool false, V.nils, V.ro false a.L.length (2 : Nat) ((fun (x k : Nat) => (a.L.getD k br0).v) (0 : Nat))])).br.getD i br0).key ∧ (a.L.getD i br0).page = ((decNd (V.agg [V.bool false, V.nils, V.ro false a.L.length (2 : Nat) ((fun (x k : Nat) => (a.L.getD k br0).v) (0 : Nat))])).br.getD i br0).page ∧ True) ∧ True) ∧ (decNd (V.agg [V.bool false, V.nils, V.ro false a.L.length (2 : Nat) ((fun (x k : Nat) => (a.L.getD k br0).v) (0 : Nat))])).en.length ≤ (4000000000000 : Nat) ∧ (decNd (V.agg [V.bool false, V.nils, V.ro false a.L.length (2 : Nat) ((fun (x k : Nat) => (a.L.getD k br0).v) (0 : Nat))])).br.length ≤ (4000000000000 : Nat)) ∧ ((!mayN (decNd (V.agg [V.bool false, V.nils, V.ro false a.L.length (2 : Nat) ((fun (x k : Nat) => (a.L.getD k br0).v) (0 : Nat))]))) = true → (false = (decN s).fst.leaf ∧ ((decN s).fst.en.length = (0 : Nat) ∧ True) ∧ ((decN s).fst.br.length = (0 : Nat) ∧ True) ∧ True) ∧ (4 : Int) = (decN s).snd ∧ True) ∧ ((!mayN (decNd (V.agg [V.bool false, V.nils, V.ro false a.L.length (2 : Nat) ((fun (x k : Nat) => (a.L.getD k br0).v) (0 : Nat))]))) = false → (false = (decN s).fst.leaf ∧ ((decN s).fst.en.length = (0 : Nat) ∧ True) ∧ (True ∧ a.L.length = (decN s).fst.br.length ∧ True ∧ ∀ (i : Nat), i < (decN s).fst.br.length →
      (a.L.getD i br0).key = ((decN s).fst.br.getD i br0).key ∧ (a.L.getD i br0).page = ((decN s).fst.br.getD i br0).page ∧ True) ∧ True) ∧ (0 : Int) = (decN s).snd ∧ True)))) ∧ (decide ((↑(s.getD (Int.toNat (0 : Int)) (0 : UInt8)).toNat : Int) = (2 : Int)) = false → (false = (decN s).fst.leaf ∧ ((decN s).fst.en.length = (0 : Nat) ∧ True) ∧ ((decN s).fst.br.length = (0 : Nat) ∧ True) ∧ True) ∧ (4 : Int) = (decN s).snd ∧ True))))) →
    vcF Try.prog St.none (specs es_dec) [] (({ loops := loopsAt [(12, { α := DSt En, inv := fun a fm st => ({ fm with tm := (fm.tm.set 5 (some (.sb a.w))).set 6 (some (.ss a.r)) }, setCell (st.add .tip) 1 1 (.acc st.next 2 [some a.L.length] (fun _ k => (a.L.getD k en0).v))), pre := fun a => keepE s.tail a, mu := fun a => a.r.length + a.w.toNat }), (17, { α := DSt Br, inv := fun a fm st => ({ fm with tm := (fm.tm.set 5 (some (.sb a.w))).set 6 (some (.ss a.r)) }, setCell (st.add .tip) 1 2 (.acc st.next 2 [some a.L.length] (fun _ k => (a.L.getD k br0).v))), pre := fun a => keepB s.tail a, mu := fun a => a.r.length + a.w.toNat })] } : Ann)) Try.f8 [.ss s] (.tuple [(decN s).1.v, .si .i64 (decN s).2]) := fun h => Eq.mpr (by kernel_rfl) h
set_option maxRecDepth 100000 in
theorem dec_ct (s : List UInt8) (h : s.length ≤ 1000000) : Ct Try.prog St.none 8 [.ss s] (.tuple [(decN s).1.v, .si .i64 (decN s).2]) := Ct.of_vcF (specs_ok es_dec_ok) Try.func8 (by kernel_rfl) (dec_vc s (by
  have e0 : List.map UInt8.ofNat (bs { data := #[] }) = [] := rfl
  simp only [decNd_e, decNd_b, e0, true_and, and_true, eq_self, implies_true, and_self, Int.toNat_natCast]
  by_cases g254 : 254 < s.length
  · have hv : decN s = (nd0, 40) := by unfold decN; rw [if_pos g254]
    rw [hv]
    exact ⟨fun _ => ⟨⟨rfl, rfl, rfl⟩, rfl⟩, fun c => absurd g254 (by have := of_decide_eq_false c; omega)⟩
  cases s with
  | nil => exact ⟨fun c => absurd (of_decide_eq_true c) (by simp), fun _ => ⟨fun _ => ⟨⟨rfl, rfl, rfl⟩, rfl⟩, fun c => by simp at c⟩⟩
  | cons b t =>
  have hl : t.length + 1 ≤ 254 := by simpa using g254
  have eg : (b :: t).getD (Int.toNat 0) 0 = b := rfl
  have et : (b :: t).tail = t := rfl
  rw [eg]
  simp only [et]
  have b1 : (((b.toNat : Nat) : Int) = 1) ↔ b = 1 := by rw [← UInt8.toNat_inj]; show _ ↔ b.toNat = 1; omega
  have b2 : (((b.toNat : Nat) : Int) = 2) ↔ b = 2 := by rw [← UInt8.toNat_inj]; show _ ↔ b.toNat = 2; omega
  refine ⟨fun c => absurd (of_decide_eq_true c) (by simp only [List.length_cons]; omega), fun _ => ⟨fun c => by simp at c, fun _ => ⟨by simp only [List.length_cons]; omega, by simp only [List.length_cons]; omega, fun c1 => ?_, fun c1 => ⟨fun c2 => ?_, fun c2 => ?_⟩⟩⟩⟩
  · have c1 : b = 1 := b1.1 (of_decide_eq_true c1)
    refine ⟨⟨⟨[], t, true⟩, ⟨by simp only [List.length_nil]; omega, (fun _ => by simp), (fun c => by cases c)⟩, ⟨rfl, by simp⟩, rfl⟩, fun a ha => ?_⟩
    have stop : a.w = false → decN (b :: t) = (nd0, 8) := fun hw => by
      have e : decEs t = none := ha.2.2 hw
      simp only [decN, if_neg g254, if_pos c1, e]; rfl
    have good : a.w = true → a.r = [] → decN (b :: t) = finN (some ⟨true, a.L, []⟩) := fun hw hr => by
      have e : decEs t = (decEs a.r).map (a.L ++ ·) := ha.2.1 hw
      rw [hr, decEs_nil] at e
      simp only [decN, if_neg g254, if_pos c1, e, Option.map_some, List.append_nil]
    have fin : ∀ (hw : a.w = true) (hr : a.r = []), _ := fun hw hr => good hw hr
    have hlen : a.L.length ≤ 1000000 := by have := ha.1; omega
    refine ⟨fun hw => ⟨fun hr => ?_, fun hr => ⟨fun c => absurd hw (by simpa using c), fun _ => ⟨⟨rfl, (by first | omega | exact Nat.zero_le _), (by first | omega | exact Nat.zero_le _)⟩, fun c => ?_, fun c => ?_⟩⟩⟩, fun hw => ⟨fun _ => ?_, fun c => absurd hw (by simpa using c)⟩⟩
    · have hr : a.r ≠ [] := by simpa using hr
      obtain ⟨k1, k2⟩ := keepE_next ha hw hr
      refine ⟨by have := ha.1; omega, by simp only [totN, segN, totN_replicate]; omega, nextE a, k1, k2, ⟨rfl, rfl⟩, ?_, fun k hk => ?_, ?_, ?_⟩
      · simp [nextE]
      · rw [nextE, ← getD_left _ _ _ hk]; exact ⟨rfl, rfl⟩
      · rw [nextE, getD_last]
      · rw [nextE, getD_last]
    · have hr : a.r = [] := by simpa using hr
      have c : mayN ⟨true, a.L, []⟩ = false := by simpa using c
      rw [good hw hr]; simp only [finN, c]; exact ⟨⟨rfl, rfl, rfl⟩, rfl⟩
    · have hr : a.r = [] := by simpa using hr
      have c : mayN ⟨true, a.L, []⟩ = true := by simpa using c
      rw [good hw hr]; simp [finN, c]
    · rw [stop hw]; exact ⟨⟨rfl, rfl, rfl⟩, rfl⟩
  · have c1 : ¬ b = 1 := fun e => absurd (b1.2 e) (of_decide_eq_false c1)
    have c2 : b = 2 := b2.1 (of_decide_eq_true c2)
    refine ⟨⟨⟨[], t, true⟩, ⟨by simp only [List.length_nil]; omega, (fun _ => by simp), (fun c => by cases c)⟩, ⟨rfl, by simp⟩, rfl⟩, fun a ha => ?_⟩
    have stop : a.w = false → decN (b :: t) = (nd0, 8) := fun hw => by
      have e : decBs t = none := ha.2.2 hw
      simp only [decN, if_neg g254, if_neg c1, if_pos c2, e]; rfl
    have good : a.w = true → a.r = [] → decN (b :: t) = finN (some ⟨false, [], a.L⟩) := fun hw hr => by
      have e : decBs t = (decBs a.r).map (a.L ++ ·) := ha.2.1 hw
      rw [hr, decBs_nil] at e
      simp only [decN, if_neg g254, if_neg c1, if_pos c2, e, Option.map_some, List.append_nil]
    have fin : ∀ (hw : a.w = true) (hr : a.r = []), _ := fun hw hr => good hw hr
    have hlen : a.L.length ≤ 1000000 := by have := ha.1; omega
    refine ⟨fun hw => ⟨fun hr => ?_, fun hr => ⟨fun c => absurd hw (by simpa using c), fun _ => ⟨⟨rfl, (by first | omega | exact Nat.zero_le _), (by first | omega | exact Nat.zero_le _)⟩, fun c => ?_, fun c => ?_⟩⟩⟩, fun hw => ⟨fun _ => ?_, fun c => absurd hw (by simpa using c)⟩⟩
    · have hr : a.r ≠ [] := by simpa using hr
      obtain ⟨k1, k2⟩ := keepB_next ha hw hr
      refine ⟨by have := ha.1; omega, by simp only [totN, segN, totN_replicate]; omega, nextB a, k1, k2, ⟨rfl, rfl⟩, ?_, fun k hk => ?_, ?_, ?_⟩
      · simp [nextB]
      · rw [nextB, ← getD_left _ _ _ hk]; exact ⟨rfl, rfl⟩
      · rw [nextB, getD_last]
      · rw [nextB, getD_last]
    · have hr : a.r = [] := by simpa using hr
      have c : mayN ⟨false, [], a.L⟩ = false := by simpa using c
      rw [good hw hr]; simp only [finN, c]; exact ⟨⟨rfl, rfl, rfl⟩, rfl⟩
    · have hr : a.r = [] := by simpa using hr
      have c : mayN ⟨false, [], a.L⟩ = true := by simpa using c
      rw [good hw hr]; simp [finN, c]
    · rw [stop hw]; exact ⟨⟨rfl, rfl, rfl⟩, rfl⟩
  · have c1 : ¬ b = 1 := fun e => absurd (b1.2 e) (of_decide_eq_false c1)
    have c2 : ¬ b = 2 := fun e => absurd (b2.2 e) (of_decide_eq_false c2)
    have hv : decN (b :: t) = (nd0, 4) := by simp only [decN, if_neg g254, if_neg c1, if_neg c2]
    rw [hv]; exact ⟨⟨rfl, rfl, rfl⟩, rfl⟩))
noncomputable def e_dec : Ent := ent1 8 tS (fun s => s.length ≤ 1000000) (fun s => .tuple [(decN s).1.v, .si .i64 (decN s).2])
theorem dec_ok : e_dec.ok Try.prog St.none := ent1_ok fun s h => dec_ct s h
theorem bl_irrefl : ∀ a : List UInt8, Op.bytesLess a a = false
  | [] => rfl
  | x :: a => by simp [Op.bytesLess, bl_irrefl a]
theorem bl_tri : ∀ a b : List UInt8, (Op.bytesLess a b = true ∧ Op.bytesLess b a = false ∧ a ≠ b) ∨ (Op.bytesLess a b = false ∧ Op.bytesLess b a = true ∧ a ≠ b) ∨ (Op.bytesLess a b = false ∧ Op.bytesLess b a = false ∧ a = b)
  | [], [] => by simp [Op.bytesLess]
  | [], y :: b => by simp [Op.bytesLess]
  | x :: a, [] => by simp [Op.bytesLess]
  | x :: a, y :: b => by
    have ih := bl_tri a b
    by_cases h : x < y
    · have h2 : ¬ y < x := fun h' => by rw [UInt8.lt_iff_toNat_lt] at h h'; omega
      have h3 : ¬ y = x := fun h' => by subst h'; rw [UInt8.lt_iff_toNat_lt] at h; omega
      have h4 : ¬ x = y := fun e => h3 e.symm
      left; simp [Op.bytesLess, h, h2, h3, h4]
    · by_cases h2 : y < x
      · have h3 : ¬ y = x := fun h' => by subst h'; rw [UInt8.lt_iff_toNat_lt] at h2; omega
        have h4 : ¬ x = y := fun e => h3 e.symm
        right; left; simp [Op.bytesLess, h, h2, h3, h4]
      · have h3 : x = y := by rw [UInt8.lt_iff_toNat_lt] at h h2; apply UInt8.toNat_inj.1; omega
        subst h3
        simpa [Op.bytesLess, h] using ih
theorem bl_trans : ∀ a b c : List UInt8, Op.bytesLess a b = true → Op.bytesLess b c = true → Op.bytesLess a c = true
  | _, [], _, h, _ => by simp [Op.bytesLess] at h
  | _, _ :: _, [], _, h => by simp [Op.bytesLess] at h
  | [], _ :: _, _ :: _, _, _ => rfl
  | x :: a, y :: b, z :: c, h1, h2 => by
    simp only [Op.bytesLess, Bool.or_eq_true, Bool.and_eq_true, decide_eq_true_eq, beq_iff_eq] at h1 h2 ⊢
    rcases h1 with h1 | ⟨rfl, h1⟩
    · rcases h2 with h2 | ⟨rfl, h2⟩
      · left; rw [UInt8.lt_iff_toNat_lt] at *; omega
      · left; exact h1
    · rcases h2 with h2 | ⟨rfl, h2⟩
      · left; exact h2
      · right; exact ⟨rfl, bl_trans a b c h1 h2⟩
/-- is a branch's key greater? -/
def gtB (L : List Br) (key : List UInt8) (i : Nat) : Bool := !(Op.bytesLess (L.getD i br0).key key || decide ((L.getD i br0).key = key))
/-- a closure that has caught two variables -/
def tF2 {α β : Type} (g : FuncId) (C : TyC α) (D : TyC β) : TyC (α × β) where
  to v := match v with
    | .func fn a b => match fn, a, b with
      | .func g', [], [c, d] => match Nat.beq g' g, C.to c, D.to d with
        | true, some (p, x), some (q, y) => some (some (cj p (cj q True)), (x, y))
        | _, _, _ => none
      | _, _, _ => none
    | _ => none
  of a := .func (.func g) [] [C.of a.1, D.of a.2]
  ok v p a h hp fz z r := by
    split at h
    · split at h
      · split at h
        · rename_i c d _ p1 x q1 y hg h1 h2
          cases h
          obtain ⟨k1, k2⟩ := cj_spec (hp _ rfl)
          obtain ⟨k3, _⟩ := cj_spec k2
          obtain rfl := Nat.eq_of_beq_eq_true hg
          simp only [RV, RVs] at r ⊢
          obtain ⟨x', y', rfl, e1, u, l, e2, r1, u2, l2, e3, r2, e4⟩ := r
          exact ⟨x', y', rfl, e1, u, l, e2, C.ok _ _ _ h1 k1 _ _ r1, u2, l2, e3, D.ok _ _ _ h2 k3 _ _ r2, e4⟩
        · cases h
      · cases h
    · cases h
def oS (l : List UInt8) : V := .ss l
noncomputable def es_place1 : List Ent := []
theorem es_place1_ok : EntsOk Try.prog St.none es_place1 := trivial
set_option maxRecDepth 100000 in
theorem place1_vc (L : List Br) (key : List UInt8) (i : Int) :
    (((0 : Int) ≤ i ∧ i < (↑L.length : Int)) ∧ (!(Op.bytesLess (L.getD i.toNat br0).key key || decide ((L.getD i.toNat br0).key = key))) = gtB L key i.toNat) →
    vcF Try.prog St.none (specs es_place1) [] (noAnn) Try.f27 [.si .i64 i, .rp 1 1 (fun _ => lB L) 0 0, .rp 1 1 (fun _ => oS key) 0 0] (.sb (gtB L key i.toNat)) := fun h => Eq.mpr (by kernel_rfl) h
set_option maxRecDepth 100000 in
theorem place1_ct (L : List Br) (key : List UInt8) (i : Int) (h0 : 0 ≤ i) (hi : i < L.length) : Ct Try.prog St.none 27 [.si .i64 i, .rp 1 1 (fun _ => lB L) 0 0, .rp 1 1 (fun _ => oS key) 0 0] (.sb (gtB L key i.toNat)) := Ct.of_vcF (specs_ok es_place1_ok) Try.func27 (by kernel_rfl) (place1_vc L key i (by
  simp [gtB, h0, hi]))
noncomputable def e_place1 : Ent := entC3 27 (tI .i64).c (tP 1 decLB lB) (tP 1 sS oS) (fun i L _ => 0 ≤ i ∧ i < L.length) (fun i L key => .sb (gtB L key i.toNat))
theorem place1_ok : e_place1.ok Try.prog St.none := entC3_ok fun i L key h => place1_ct L key i h.1 h.2
def bsF (f : Nat → Bool) (low high : Nat) : Nat :=
  if h : low < high then (if f (low + (high - low) / 2) then bsF f low (low + (high - low) / 2) else bsF f (low + (high - low) / 2 + 1) high) else low
termination_by high - low
noncomputable def es_first : List Ent := [e_place1]
theorem es_first_ok : EntsOk Try.prog St.none es_first := ⟨place1_ok, trivial⟩
set_option maxRecDepth 100000 in
theorem first_vc (L : List Br) (key : List UInt8) :
    ((∃ (a : Nat × Nat), (a.fst ≤ a.snd ∧ a.snd ≤ L.length ∧ bsF (gtB L key) a.fst a.snd = bsF (gtB L key) (0 : Nat) L.length) ∧ True ∧ ((True ∧ ((1 : Nat) = (1 : Nat) ∧ (1 : Nat) = (1 : Nat) ∧ (0 : Nat) = (0 : Nat) ∧ (0 : Nat) = (0 : Nat) ∧ ∀ (i : Nat), i < (1 : Nat) → True ∧ L.length = L.length ∧ True ∧ ∀ (i : Nat), i < L.length → (L.getD i br0).key = (L.getD i br0).key ∧ (L.getD i br0).page = (L.getD i br0).page ∧ True) ∧ ((1 : Nat) = (1 : Nat) ∧ (1 : Nat) = (1 : Nat) ∧ (0 : Nat) = (0 : Nat) ∧ (0 : Nat) = (0 : Nat) ∧ ∀ (i : Nat), i < (1 : Nat) → key = key) ∧ True) ∧ (0 : Int) = (↑a.fst : Int) ∧ (0 : Int) = (0 : Int) ∧ (↑L.length : Int) = (↑a.snd : Int)) ∧ True) ∧ ∀ (a : Nat × Nat), a.fst ≤ a.snd ∧ a.snd ≤ L.length ∧ bsF (gtB L key) a.fst a.snd = bsF (gtB L key) (0 : Nat) L.length → (decide ((↑a.fst : Int) < (↑a.snd : Int)) = true → (2 : Int) ≠ (0 : Int) ∧ ((True ∧ L.length = (decLB (lB L)).length ∧ True ∧ ∀ (i : Nat), i < (decLB (lB L)).length → (L.getD i br0).key = ((decLB (lB L)).getD i br0).key ∧ (L.getD i br0).page = ((decLB (lB L)).getD i br0).page ∧ True) ∧ key = sS (oS key) ∧ (0 : Int) ≤ IntKind.i64.wrap ((↑a.fst : Int) + IntKind.i64.wrap ((IntKind.i64.wrap ((↑a.snd : Int) - (↑a.fst : Int))).tdiv (2 : Int))) ∧ IntKind.i64.wrap ((↑a.fst : Int) + IntKind.i64.wrap ((IntKind.i64.wrap ((↑a.snd : Int) - (↑a.fst : Int))).tdiv (2 : Int))) < (↑(decLB (lB L)).length : Int)) ∧
      (gtB (decLB (lB L)) (sS (oS key)) (IntKind.i64.wrap ((↑a.fst : Int) + IntKind.i64.wrap ((IntKind.i64.wrap ((↑a.snd : Int) - (↑a.fst : Int))).tdiv (2 : Int)))).toNat = true → ∃ (a' : Nat × Nat), (a'.fst ≤ a'.snd ∧ a'.snd ≤ L.length ∧ bsF (gtB L key) a'.fst a'.snd = bsF (gtB L key) (0 : Nat) L.length) ∧ a'.snd - a'.fst < a.snd - a.fst ∧ True ∧ ((True ∧ ((1 : Nat) = (1 : Nat) ∧ (1 : Nat) = (1 : Nat) ∧ (0 : Nat) = (0 : Nat) ∧ (0 : Nat) = (0 : Nat) ∧ ∀ (i : Nat), i < (1 : Nat) → True ∧ L.length = L.length ∧ True ∧ ∀ (i : Nat), i < L.length → (L.getD i br0).key = (L.getD i br0).key ∧ (L.getD i br0).page = (L.getD i br0).page ∧ True) ∧ ((1 : Nat) = (1 : Nat) ∧ (1 : Nat) = (1 : Nat) ∧ (0 : Nat) = (0 : Nat) ∧ (0 : Nat) = (0 : Nat) ∧ ∀ (i : Nat), i < (1 : Nat) → key = key) ∧ True) ∧ (↑a.fst : Int) = (↑a'.fst : Int) ∧ (0 : Int) = (0 : Int) ∧ IntKind.i64.wrap ((↑a.fst : Int) + IntKind.i64.wrap ((IntKind.i64.wrap ((↑a.snd : Int) - (↑a.fst : Int))).tdiv (2 : Int))) = (↑a'.snd : Int)) ∧ True) ∧ (gtB (decLB (lB L)) (sS (oS key)) (IntKind.i64.wrap ((↑a.fst : Int) + IntKind.i64.wrap ((IntKind.i64.wrap ((↑a.snd : Int) - (↑a.fst : Int))).tdiv (2 : Int)))).toNat = false → ∃ (a' : Nat × Nat), (a'.fst ≤ a'.snd ∧ a'.snd ≤ L.length ∧ bsF (gtB L key) a'.fst a'.snd = bsF (gtB L key) (0 : Nat) L.length) ∧ a'.snd - a'.fst < a.snd - a.fst ∧ True ∧ ((True ∧ ((1 : Nat) = (1 : Nat) ∧ (1 : Nat) = (1 : Nat) ∧ (0 : Nat) = (0 : Nat) ∧ (0 : Nat) = (0 : Nat) ∧ ∀ (i : Nat), i < (1 : Nat) → True ∧
      L.length = L.length ∧ True ∧ ∀ (i : Nat), i < L.length → (L.getD i br0).key = (L.getD i br0).key ∧ (L.getD i br0).page = (L.getD i br0).page ∧ True) ∧ ((1 : Nat) = (1 : Nat) ∧ (1 : Nat) = (1 : Nat) ∧ (0 : Nat) = (0 : Nat) ∧ (0 : Nat) = (0 : Nat) ∧ ∀ (i : Nat), i < (1 : Nat) → key = key) ∧ True) ∧ IntKind.i64.wrap (IntKind.i64.wrap ((↑a.fst : Int) + IntKind.i64.wrap ((IntKind.i64.wrap ((↑a.snd : Int) - (↑a.fst : Int))).tdiv (2 : Int))) + (1 : Int)) = (↑a'.fst : Int) ∧ (0 : Int) = (0 : Int) ∧ (↑a.snd : Int) = (↑a'.snd : Int)) ∧ True)) ∧ (decide ((↑a.fst : Int) < (↑a.snd : Int)) = false → (↑a.fst : Int) = (↑(bsF (gtB L key) (0 : Nat) L.length) : Int))) →
    vcF Try.prog St.none (specs es_first) [] (({ loops := loopsAt [(2, { α := Nat × Nat, inv := fun a fm st => ({ fm with tm := (fm.tm.set 5 (some (.si .i64 (a.1 : Int)))).set 6 (some (.si .i64 (a.2 : Int))) }, st), pre := fun a => a.1 ≤ a.2 ∧ a.2 ≤ L.length ∧ bsF (gtB L key) a.1 a.2 = bsF (gtB L key) 0 L.length, mu := fun a => a.2 - a.1 })] } : Ann)) Try.f26 [.si .i64 (L.length : Int), .func (.func 27) [] [.rp 1 1 (fun _ => lB L) 0 0, .rp 1 1 (fun _ => oS key) 0 0]] (.si .i64 (bsF (gtB L key) 0 L.length : Int)) := fun h => Eq.mpr (by kernel_rfl) h
set_option maxRecDepth 100000 in
theorem first_ct (L : List Br) (key : List UInt8) (hL : L.length ≤ 4000000000000) : Ct Try.prog St.none 26 [.si .i64 (L.length : Int), .func (.func 27) [] [.rp 1 1 (fun _ => lB L) 0 0, .rp 1 1 (fun _ => oS key) 0 0]] (.si .i64 (bsF (gtB L key) 0 L.length : Int)) := Ct.of_vcF (specs_ok es_first_ok) Try.func26 (by kernel_rfl) (first_vc L key (by
  have dB : decLB (lB L) = L := decLB_v L
  have dS : sS (oS key) = key := rfl
  simp only [true_and, and_true, eq_self, implies_true, and_self, Int.toNat_natCast, dB, dS]
  refine ⟨⟨(0, L.length), ⟨Nat.zero_le _, Nat.le_refl _, rfl⟩, rfl, rfl⟩, fun a ha => ?_⟩
  obtain ⟨lo, hi⟩ := a
  obtain ⟨hle, hn, hb⟩ := ha
  dsimp only at hle hn hb ⊢
  by_cases h : lo < hi
  · have hm : lo + (hi - lo) / 2 < hi := by omega
    have e1 : IntKind.i64.wrap ((hi : Int) - lo) = ((hi - lo : Nat) : Int) := by rw [wrap_i64 (by unfold I64; omega)]; omega
    have e2 : ((hi - lo : Nat) : Int).tdiv 2 = (((hi - lo) / 2 : Nat) : Int) := by rw [Int.tdiv_eq_ediv_of_nonneg (nn _)]; rfl
    have e3 : IntKind.i64.wrap ((((hi - lo) / 2 : Nat)) : Int) = (((hi - lo) / 2 : Nat) : Int) := wrap_i64 (by unfold I64; omega)
    have e4 : IntKind.i64.wrap ((lo : Int) + (((hi - lo) / 2 : Nat) : Int)) = ((lo + (hi - lo) / 2 : Nat) : Int) := by rw [wrap_i64 (by unfold I64; omega)]; omega
    have e5 := wr1 (Nat.lt_of_lt_of_le hm hn) hL
    have hb' : bsF (gtB L key) lo hi = if gtB L key (lo + (hi - lo) / 2) then bsF (gtB L key) lo (lo + (hi - lo) / 2) else bsF (gtB L key) (lo + (hi - lo) / 2 + 1) hi := by rw [bsF, dif_pos h]
    rw [e1, e2, e3, e4, e5]
    simp only [Int.toNat_natCast]
    refine ⟨fun _ => ⟨by decide, ⟨nn _, Int.ofNat_lt.2 (by omega)⟩, fun c => ⟨(lo, lo + (hi - lo) / 2), ⟨by dsimp only; omega, by dsimp only; omega, ?_⟩, by dsimp only; omega, rfl, rfl⟩, fun c => ⟨(lo + (hi - lo) / 2 + 1, hi), ⟨by dsimp only; omega, by dsimp only; omega, ?_⟩, by dsimp only; omega, rfl, rfl⟩⟩, fun c => absurd h (by have := of_decide_eq_false c; omega)⟩
    · rw [c, if_pos rfl] at hb'; exact hb'.symm.trans hb
    · rw [c, if_neg (by decide)] at hb'; exact hb'.symm.trans hb
  · refine ⟨fun c => absurd (of_decide_eq_true c) (by omega), fun _ => ?_⟩
    rw [← hb, bsF, dif_neg h]))
noncomputable def e_first : Ent := entC2 26 (tI .i64).c (tF2 27 (tP 1 decLB lB) (tP 1 sS oS)) (fun n a => n = (a.1.length : Int) ∧ a.1.length ≤ 4000000000000) (fun _ a => .si .i64 (bsF (gtB a.1 a.2) 0 a.1.length : Int))
theorem first_ok : e_first.ok Try.prog St.none := entC2_ok fun n a h => by obtain ⟨rfl, h⟩ := h; exact first_ct a.1 a.2 h
theorem bsF_le (f : Nat → Bool) : ∀ (m low high : Nat), high - low = m → low ≤ high → low ≤ bsF f low high ∧ bsF f low high ≤ high := by
  intro m
  induction m using Nat.strongRecOn with
  | _ m ih =>
    intro low high hm hle
    unfold bsF
    by_cases h : low < high
    · rw [dif_pos h]
      split
      · have := ih _ (by omega) low (low + (high - low) / 2) rfl (by omega)
        omega
      · have := ih _ (by omega) (low + (high - low) / 2 + 1) high rfl (by omega)
        omega
    · rw [dif_neg h]; omega
theorem bsF_spec {f : Nat → Bool} {n : Nat} (mono : ∀ i j, i ≤ j → j < n → f i = true → f j = true) : ∀ (m low high : Nat), high - low = m → low ≤ high → high ≤ n →
    (∀ i, i < low → f i = false) → (∀ i, high ≤ i → i < n → f i = true) → (∀ i, i < bsF f low high → f i = false) ∧ (∀ i, bsF f low high ≤ i → i < n → f i = true) := by
  intro m
  induction m using Nat.strongRecOn with
  | _ m ih =>
    intro low high hm hle hn h1 h2
    unfold bsF
    by_cases h : low < high
    · rw [dif_pos h]
      have hmid : low + (high - low) / 2 < high := by omega
      split
      · rename_i hf
        exact ih _ (by omega) low (low + (high - low) / 2) rfl (by omega) (by omega) h1 (fun i hi hin => mono _ i hi hin hf)
      · rename_i hf
        have hf : f (low + (high - low) / 2) = false := by simpa using hf
        refine ih _ (by omega) (low + (high - low) / 2 + 1) high rfl (by omega) hn (fun i hi => ?_) h2
        cases hc : f i with
        | false => rfl
        | true => rw [mono i (low + (high - low) / 2) (by omega) (by omega) hc] at hf; cases hf
    · rw [dif_neg h]
      exact ⟨h1, fun i hi hin => h2 i (by omega) hin⟩
structure smB (L : List Br) : Prop where
  le : L.length ≤ 4000000000000
def plc (L : List Br) (key : List UInt8) : Int := max ((bsF (gtB L key) 0 L.length : Int) - 1) 0
noncomputable def es_place : List Ent := [e_first]
theorem es_place_ok : EntsOk Try.prog St.none es_place := ⟨first_ok, trivial⟩
set_option maxRecDepth 100000 in
theorem place_vc (L : List Br) (key : List UInt8) :
    ((((True ∧ L.length = (decLB (mkEl [V.ro false L.length (2 : Nat) fun (k : Nat) => (L.getD k br0).v])).length ∧ True ∧ ∀ (i : Nat), i < (decLB (mkEl [V.ro false L.length (2 : Nat) fun (k : Nat) => (L.getD k br0).v])).length → (L.getD i br0).key = ((decLB (mkEl [V.ro false L.length (2 : Nat) fun (k : Nat) => (L.getD k br0).v])).getD i br0).key ∧ (L.getD i br0).page = ((decLB (mkEl [V.ro false L.length (2 : Nat) fun (k : Nat) => (L.getD k br0).v])).getD i br0).page ∧ True) ∧ key = sS (mkEl [V.ss key]) ∧ True) ∧ (↑L.length : Int) = (↑(decLB (mkEl [V.ro false L.length (2 : Nat) fun (k : Nat) => (L.getD k br0).v]), sS (mkEl [V.ss key])).fst.length : Int) ∧ (decLB (mkEl [V.ro false L.length (2 : Nat) fun (k : Nat) => (L.getD k br0).v]), sS (mkEl [V.ss key])).fst.length ≤ (4000000000000 : Nat)) ∧ max (IntKind.i64.wrap ((↑(bsF (gtB (decLB (mkEl [V.ro false L.length (2 : Nat) fun (k : Nat) => (L.getD k br0).v]), sS (mkEl [V.ss key])).fst (decLB (mkEl [V.ro false L.length (2 : Nat) fun (k : Nat) => (L.getD k br0).v]), sS (mkEl [V.ss key])).snd) (0 : Nat) (decLB (mkEl [V.ro false L.length (2 : Nat) fun (k : Nat) => (L.getD k br0).v]), sS (mkEl [V.ss key])).fst.length) : Int) - (1 : Int))) (0 : Int) = plc L key) →
    vcF Try.prog St.none (specs es_place) [] (noAnn) Try.f13 [lB L, .ss key] (.si .i64 (plc L key)) := fun h => Eq.mpr (by kernel_rfl) h
set_option maxRecDepth 100000 in
theorem place_ct (L : List Br) (key : List UInt8) (hL : L.length ≤ 4000000000000) : Ct Try.prog St.none 13 [lB L, .ss key] (.si .i64 (plc L key)) := Ct.of_vcF (specs_ok es_place_ok) Try.func13 (by kernel_rfl) (place_vc L key (by
  have dB : decLB (lB L) = L := decLB_v L
  have dS : sS (oS key) = key := rfl
  have hb := bsF_le (gtB L key) _ 0 L.length rfl (Nat.zero_le _)
  have hw : IntKind.i64.wrap ((bsF (gtB L key) 0 L.length : Int) - 1) = (bsF (gtB L key) 0 L.length : Int) - 1 := wrap_i64 (by unfold I64; omega)
  simp only [true_and, and_true, eq_self, implies_true, and_self, Int.toNat_natCast, dB, dS, mkEl, decLB_ro, sS, V.asS, hw]
  exact ⟨hL, rfl⟩))
noncomputable def e_place : Ent := entC2 13 (tL 2 decBr Br.v br0) tS.c (fun L _ => smB L) (fun L key => .si .i64 (plc L key))
theorem place_ok : e_place.ok Try.prog St.none := entC2_ok fun L key h => place_ct L key h.le
def bigE (e : En) : Bool := decide (300 < (e.key.length : Int)) || decide (300 < (e.val.length : Int))
def bigB (e : Br) : Bool := decide (300 < (e.key.length : Int))
def lg06 (x : Nd) : Bool := decide (200 < (x.en.length : Int)) || decide (200 < (x.br.length : Int)) || (List.range x.en.length).any (fun i => bigE (x.en.getD i en0)) || (List.range x.br.length).any (fun i => bigB (x.br.getD i br0))
theorem any_succ (f : Nat → Bool) (a : Nat) : (List.range (a + 1)).any f = ((List.range a).any f || f a) := by
  rw [List.range_succ, List.any_append]; simp
theorem any_true {f : Nat → Bool} {a n : Nat} (h : a < n) (hf : f a = true) : (List.range n).any f = true :=
  List.any_eq_true.2 ⟨a, List.mem_range.2 h, hf⟩
noncomputable def es_large : List Ent := []
theorem es_large_ok : EntsOk Try.prog St.none es_large := trivial
set_option maxRecDepth 100000 in
theorem large_vc (x : Nd) :
    ((decide ((200 : Int) < (↑x.en.length : Int)) = true → true = lg06 x) ∧ (decide ((200 : Int) < (↑x.en.length : Int)) = false → (decide ((200 : Int) < (↑x.br.length : Int)) = true → true = lg06 x) ∧ (decide ((200 : Int) < (↑x.br.length : Int)) = false → (∃ (a : Nat), (a ≤ x.en.length ∧ ((List.range a).any fun (i : Nat) => bigE (x.en.getD i en0)) = false) ∧ True ∧ (True ∧ (0 : Int) = (↑a : Int)) ∧ x.leaf = x.leaf ∧ (True ∧ x.en.length = x.en.length ∧ True ∧ ∀ (i : Nat), i < x.en.length → (x.en.getD i en0).key = (x.en.getD i en0).key ∧ (x.en.getD i en0).val = (x.en.getD i en0).val ∧ True) ∧ True ∧ x.br.length = x.br.length ∧ True ∧ ∀ (i : Nat), i < x.br.length → (x.br.getD i br0).key = (x.br.getD i br0).key ∧ (x.br.getD i br0).page = (x.br.getD i br0).page ∧ True) ∧ ∀ (a : Nat), a ≤ x.en.length ∧ ((List.range a).any fun (i : Nat) => bigE (x.en.getD i en0)) = false → (decide ((↑a : Int) < (↑x.en.length : Int)) = true → ((0 : Int) ≤ (↑a : Int) ∧ (↑a : Int) < (↑x.en.length : Int)) ∧ (decide ((300 : Int) < (↑(x.en.getD (↑a : Int).toNat en0).key.length : Int)) = true → true = lg06 x) ∧ (decide ((300 : Int) < (↑(x.en.getD (↑a : Int).toNat en0).key.length : Int)) = false → ((0 : Int) ≤ (↑a : Int) ∧ (↑a : Int) < (↑x.en.length : Int)) ∧ (decide ((300 : Int) < (↑(x.en.getD (↑a : Int).toNat en0).val.length : Int)) = true → true = lg06 x) ∧ (decide ((300 : Int) < (↑(x.en.getD (↑a : Int).toNat en0).val.length : Int)) = false → ∃ (a' : Nat), (a' ≤ x.en.length ∧
      ((List.range a').any fun (i : Nat) => bigE (x.en.getD i en0)) = false) ∧ x.en.length - a' < x.en.length - a ∧ True ∧ (True ∧ IntKind.i64.wrap ((↑a : Int) + (1 : Int)) = (↑a' : Int)) ∧ x.leaf = x.leaf ∧ (True ∧ x.en.length = x.en.length ∧ True ∧ ∀ (i : Nat), i < x.en.length → (x.en.getD i en0).key = (x.en.getD i en0).key ∧ (x.en.getD i en0).val = (x.en.getD i en0).val ∧ True) ∧ True ∧ x.br.length = x.br.length ∧ True ∧ ∀ (i : Nat), i < x.br.length → (x.br.getD i br0).key = (x.br.getD i br0).key ∧ (x.br.getD i br0).page = (x.br.getD i br0).page ∧ True))) ∧ (decide ((↑a : Int) < (↑x.en.length : Int)) = false → (∃ (a : Nat), (a ≤ x.br.length ∧ ((List.range a).any fun (i : Nat) => bigB (x.br.getD i br0)) = false) ∧ True ∧ (True ∧ (0 : Int) = (↑a : Int)) ∧ x.leaf = x.leaf ∧ (True ∧ x.en.length = x.en.length ∧ True ∧ ∀ (i : Nat), i < x.en.length → (x.en.getD i en0).key = (x.en.getD i en0).key ∧ (x.en.getD i en0).val = (x.en.getD i en0).val ∧ True) ∧ True ∧ x.br.length = x.br.length ∧ True ∧ ∀ (i : Nat), i < x.br.length → (x.br.getD i br0).key = (x.br.getD i br0).key ∧ (x.br.getD i br0).page = (x.br.getD i br0).page ∧ True) ∧ ∀ (a : Nat), a ≤ x.br.length ∧ ((List.range a).any fun (i : Nat) => bigB (x.br.getD i br0)) = false → (decide ((↑a : Int) < (↑x.br.length : Int)) = true → ((0 : Int) ≤ (↑a : Int) ∧ (↑a : Int) < (↑x.br.length : Int)) ∧ (decide ((300 : Int) < (↑(x.br.getD (↑a : Int).toNat br0).key.length : Int)) = true → true = lg06 x) ∧
      (decide ((300 : Int) < (↑(x.br.getD (↑a : Int).toNat br0).key.length : Int)) = false → ∃ (a' : Nat), (a' ≤ x.br.length ∧ ((List.range a').any fun (i : Nat) => bigB (x.br.getD i br0)) = false) ∧ x.br.length - a' < x.br.length - a ∧ True ∧ (True ∧ IntKind.i64.wrap ((↑a : Int) + (1 : Int)) = (↑a' : Int)) ∧ x.leaf = x.leaf ∧ (True ∧ x.en.length = x.en.length ∧ True ∧ ∀ (i : Nat), i < x.en.length → (x.en.getD i en0).key = (x.en.getD i en0).key ∧ (x.en.getD i en0).val = (x.en.getD i en0).val ∧ True) ∧ True ∧ x.br.length = x.br.length ∧ True ∧ ∀ (i : Nat), i < x.br.length → (x.br.getD i br0).key = (x.br.getD i br0).key ∧ (x.br.getD i br0).page = (x.br.getD i br0).page ∧ True)) ∧ (decide ((↑a : Int) < (↑x.br.length : Int)) = false → false = lg06 x))))) →
    vcF Try.prog St.none (specs es_large) [] (({ loops := loopsAt [(4, { α := Nat, inv := fun i fm st => ({ fm with tm := fm.tm.set 3 (some (.si .i64 (i : Int))) }, st), pre := fun i => i ≤ x.en.length ∧ (List.range i).any (fun i => bigE (x.en.getD i en0)) = false, mu := fun i => x.en.length - i }), (9, { α := Nat, inv := fun i fm st => ({ fm with tm := fm.tm.set 4 (some (.si .i64 (i : Int))) }, st), pre := fun i => i ≤ x.br.length ∧ (List.range i).any (fun i => bigB (x.br.getD i br0)) = false, mu := fun i => x.br.length - i })] } : Ann)) Try.f4 [x.v] (.sb (lg06 x)) := fun h => Eq.mpr (by kernel_rfl) h
set_option maxRecDepth 100000 in
theorem large_ct (x : Nd)  : Ct Try.prog St.none 4 [x.v] (.sb (lg06 x)) := Ct.of_vcF (specs_ok es_large_ok) Try.func4 (by kernel_rfl) (large_vc x (by
  simp only [true_and, and_true, eq_self, implies_true, and_self, Int.toNat_natCast]
  refine ⟨fun c => by unfold lg06; simp only [c, Bool.true_or], fun c1 => ⟨fun c => by unfold lg06; simp only [c, Bool.true_or, Bool.or_true], fun c2 => ⟨⟨0, ⟨Nat.zero_le _, rfl⟩, rfl⟩, fun a ha => ⟨fun h => ?_, fun h => ?_⟩⟩⟩⟩
  · obtain ⟨ha, hall⟩ := ha
    have hlt : a < x.en.length := by have := of_decide_eq_true h; omega
    have no : bigE (x.en.getD a en0) = true → true = lg06 x := fun hf => by
      unfold lg06; rw [any_true (f := fun i => bigE (x.en.getD i en0)) hlt hf]; simp only [Bool.true_or, Bool.or_true]
    refine ⟨⟨nn a, Int.ofNat_lt.2 hlt⟩, fun c => no (by unfold bigE; simp only [c, Bool.true_or]), fun c3 => ⟨⟨nn a, Int.ofNat_lt.2 hlt⟩, fun c => no (by unfold bigE; simp only [c, Bool.or_true]), fun c4 => ⟨a + 1, ⟨hlt, ?_⟩, by omega, wr1 hlt (by have := of_decide_eq_false c1; omega)⟩⟩⟩
    rw [any_succ, hall]
    simp only [bigE, c3, c4, Bool.or_false]
  · obtain ⟨ha, hall⟩ := ha
    have ea : a = x.en.length := by have := of_decide_eq_false h; have ha : a ≤ x.en.length := ha; omega
    rw [ea] at hall
    refine ⟨⟨0, ⟨Nat.zero_le _, rfl⟩, rfl⟩, fun b hb => ⟨fun h => ?_, fun h => ?_⟩⟩
    · obtain ⟨hb, hbll⟩ := hb
      have hlt : b < x.br.length := by have := of_decide_eq_true h; omega
      have no : bigB (x.br.getD b br0) = true → true = lg06 x := fun hf => by
        unfold lg06; rw [any_true (f := fun i => bigB (x.br.getD i br0)) hlt hf]; simp only [Bool.true_or, Bool.or_true]
      refine ⟨⟨nn b, Int.ofNat_lt.2 hlt⟩, fun c => no c, fun c3 => ⟨b + 1, ⟨hlt, ?_⟩, by omega, wr1 hlt (by have := of_decide_eq_false c2; omega)⟩⟩
      rw [any_succ, hbll]
      simp only [bigB, c3, Bool.or_false]
    · obtain ⟨hb, hbll⟩ := hb
      have eb : b = x.br.length := by have := of_decide_eq_false h; have hb : b ≤ x.br.length := hb; omega
      rw [eb] at hbll
      unfold lg06
      simp only [c1, c2, hall, hbll, Bool.or_false]))
noncomputable def e_large : Ent := entC1 4 (tD decNd Nd.v) (fun _ => True) (fun x => .sb (lg06 x))
theorem large_ok : e_large.ok Try.prog St.none := entC1_ok fun x _ => large_ct x
end Go.Proofs.Ytgdphlmbpjjfjaa
