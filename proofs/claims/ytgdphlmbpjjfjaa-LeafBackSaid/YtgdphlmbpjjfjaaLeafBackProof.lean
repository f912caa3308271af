/-
  For every node that is given, and every text: what was encoded is decoded to the same node, what was decoded is encoded to the same bytes: the law LeafBack returns true. No conditions beyond the statement's own.
-/
import Derived.Test.YtgdphlmbpjjfjaaRows
import Derived.WalkKit
import Derived.ProofKit
import Derived.OpenShut
import Derived.Test.YtgdphlmbpjjfjaaFrame
import Derived.Test.YtgdphlmbpjjfjaaLb
namespace Go.Proofs.Ytgdphlmbpjjfjaa.leafBack
open Go.ChangeShapes Go.WideShapes Go.ChangeAt Go.RowKit
set_option linter.unusedVariables false
open Go.Proofs.Ytgdphlmbpjjfjaa
section
variable {H : Type} {enc : TypeId × Value → H} {W : World} {spare : Nat → Bool} {held : Bool}
theorem rdEn : Sv.Reads enc Try.prog W spare held 43 En.v (fun _ => True) :=
  Sv.reads_struct Try.underlying43 (Sv.readsF_cons (n := 1) (Sv.reads_string Try.underlying9) rfl (by kernel_rfl) (Sv.readsF_cons (n := 1) (Sv.reads_string Try.underlying9) rfl (by kernel_rfl) Sv.readsF_nil)) (by kernel_rfl)
    (fun b => ⟨b.1, b.2.1⟩) (fun _ => rfl) (fun _ => rfl) (fun _ _ => trivial)
theorem rdBr : Sv.Reads enc Try.prog W spare held 45 Br.v (fun _ => True) :=
  Sv.reads_struct Try.underlying45 (Sv.readsF_cons (n := 1) (Sv.reads_string Try.underlying9) rfl (by kernel_rfl) (Sv.readsF_cons (n := 1) (Sv.reads_int Try.underlying3) rfl (by kernel_rfl) Sv.readsF_nil)) (by kernel_rfl)
    (fun b => ⟨b.1, b.2.1⟩) (fun _ => rfl) (fun _ => rfl) (fun _ _ => trivial)
theorem rdNd : Sv.Reads enc Try.prog W spare held 25 Nd.v (fun _ => True) :=
  Sv.reads_struct Try.underlying25 (Sv.readsF_cons (n := 1) (Sv.reads_bool Try.underlying4) rfl (by kernel_rfl)
    (Sv.readsF_cons (n := 1) (Sv.reads_slice en0 Try.underlying22 rdEn (by kernel_rfl) (by omega) rfl) rfl (by kernel_rfl)
      (Sv.readsF_cons (n := 1) (Sv.reads_slice br0 Try.underlying23 rdBr (by kernel_rfl) (by omega) rfl) rfl (by kernel_rfl) Sv.readsF_nil))) (by kernel_rfl)
    (fun b => ⟨b.1, b.2.1, b.2.2.1⟩) (fun _ => rfl) (fun _ => rfl) (fun _ _ => trivial)
end
theorem walk (v0 v1 : Value) (x0 : Nd) (o0 : True) (x1 : List UInt8) (o1 : x1.length ≤ 140737488351232) (w : World) (r0 : Sv.RV (Sv.Sg.ofFz (Sv.fzW w)) (x0.v) v0) (r1 : Sv.RV (Sv.Sg.ofFz (Sv.fzW w)) (.ss x1) v1) :
    Calls Try.prog 3 #[v0, v1] w fun e w' => e = .returned (.bool true) ∧ Below w.heap.size w w' :=
  Sv.Ct.calls (law_ct x0 x1 o1) rfl (Sv.Tab.none w) (Sv.fzW_ok w) (by simp only [Sv.RVs]; exact ⟨_, _, rfl, r0, _, _, rfl, r1, rfl⟩)
set_option maxRecDepth 100000 in
set_option maxHeartbeats 4000000 in
theorem proved : Rows.LeafBackSaid := by
  refine OpenClaim.holds_of_wide 3 Try.f3 rfl rfl rfl rfl rfl rfl rfl ⟨rfl, rfl, rfl, rfl, rfl⟩ rfl rfl rfl rfl rfl (by kernel_rfl) Try.func3 (by kernel_rfl)
    (of_decide_eq_true (by kernel_rfl)) (by unfold Func.isWrapper; first | (rw [if_pos (by decide +kernel)]; kernel_rfl) | (rw [if_neg (by decide +kernel)]; exact ⟨rfl, rfl⟩))
    (fun os started H enc _ => lawLifted (C := Try.checked) (F := Try.f3) (s := Rows.leafBackSpec) (conds := Rows.leafBackRow.domain) (by kernel_rfl) started (by kernel_rfl) Try.func3
      (ChangeSpec.witness6 (enc := enc) (C := Try.checked) false ⟨#[], #[.agg #[.bool false, .slice none 0 0, .slice none 0 0], .string ByteArray.empty], []⟩ 8 (by kernel_rfl) (by kernel_rfl) (by kernel_rfl) (by kernel_rfl))
      (by kernel_rfl) (by kernel_rfl) rfl Try.underlying4
      (fun ds hl => by match ds, hl with | [d0, d1], _ => exact ⟨rfl, rfl, rfl⟩) rfl (fun W base args ds ps hval hA hcnd hsz => ?_))
  have hpar : Try.f3.params.toList = [25, 9] := rfl
  rw [hpar] at hval hA hsz
  obtain ⟨v0, vs0, d0, ds0, p0, q0, hargs, rfl, rfl, h0, r0⟩ := trodAll_cons hA
  obtain ⟨v1, vs1, d1, ds1, p1, q1, rfl, rfl, rfl, h1, r1⟩ := trodAll_cons r0
  obtain ⟨rfl, rfl, rfl⟩ := trodAll_nil r1
  obtain rfl : args = #[v0, v1] := by cases args; simp_all
  obtain ⟨x0, rr0, o0⟩ := Sv.Reads.argS (P := Try.checked.prog) (rdNd) Try.underlying25 (fun a => ⟨_, rfl⟩) (hval 0 25 v0 rfl rfl) h0 (fun k hk => of_decide_eq_true (List.all_eq_true.1 hsz _ (DataW.weights_mem_each (j := 0) rfl rfl k hk)))
  obtain ⟨x1, rr1, o1⟩ := Sv.Reads.arg1 (P := Try.checked.prog) (Sv.reads_string Try.underlying9) Try.underlying9 rfl (fun a => ⟨_, rfl, rfl⟩) (hval 1 9 v1 rfl rfl) h1 (fun k hk => of_decide_eq_true (List.all_eq_true.1 hsz _ (DataW.weights_mem_each (j := 1) rfl rfl k hk)))
  exact walk v0 v1 x0 o0 x1 o1 W rr0 rr1
#print axioms proved
end Go.Proofs.Ytgdphlmbpjjfjaa.leafBack
