/-
  Proved: saron/saronlaw04.SettleEnds returns true for any set and pair of numbers, with no condition. The functions are walked by a logic of trees over a machine of plain values (the texts Vam..), which is proved right; the chapter's examples ('works') are run by Lean's kernel; the shell is the guide's.
-/
import Derived.Test.YtpckmojdekdbbaaGreatRows
import Derived.WalkKit
import Derived.ProofKit
import Derived.OpenShut
import Derived.ChangeOld
import Derived.Below
import Derived.Test.YtpckmojdekdbbaaGreatVamT16
import Derived.Test.YtpckmojdekdbbaaGreatVamAllKnown
namespace Go.Proofs.YtpckmojdekdbbaaGreat.settleEnds
open Go.Proofs.YtpckmojdekdbbaaGreat.settles
open Go.ChangeShapes Go.WideShapes Go.ChangeAt Go.RowKit
set_option linter.unusedVariables false
theorem own : ownKnob Tryz.prog.godebug = none := by kernel_rfl
theorem laidOut : laidOutB Tryz.prog = true := by kernel_rfl
theorem bodyW : ∃ br, Vam.bodyOf Tryz.prog 21 = some br := by
  cases h : Vam.bodyOf Tryz.prog 21 with
  | some br => exact ⟨br, rfl⟩
  | none => exact absurd h (by
      have : (Vam.bodyOf Tryz.prog 21).isSome = true := by kernel_rfl
      intro h; rw [h] at this; cases this)
theorem pureW : Vam.pureFn Tryz.prog 21 = true := by kernel_rfl
theorem allF : ∀ us, Vam.ShpAs Tryz.prog [27, 29] us → Vam.RetP Tryz.prog (fun f => Nat.beq f 21) (Vam.one 21 .nil [] (.bool true)) 8 us (.bool true) := by
  obtain ⟨br, hb⟩ := bodyW
  exact ret8_all (fun f h => Vam.beq_ne h) (Vam.ret_known hb pureW rfl rfl (fun _ => .bool _))
theorem knownW : Vam.KnownOk Tryz.prog (Vam.one 21 .nil [] (.bool true)) := Vam.one_ok (Vam.soundK (is := works.is1) works.mixed works.known1 1000000).2 (works.mixedStays true) works.played_run
theorem plainArgs : ([27, 29].all (Vam.plainT Tryz.prog 7)) = true := by kernel_rfl
set_option maxRecDepth 100000 in
theorem lifted (os : Os) (started : os.Started) (H : Type) (enc : TypeId × Value → H) :
    ReturnsInHanded {} Tryz.checked os 8 .any (Rows.settleEndsSpec.pre6 enc Tryz.prog Tryz.f8 Rows.settleEndsRow.domain false) (Rows.settleEndsSpec.post enc Tryz.prog Tryz.f8 false true false false) := by
  refine returnsInHanded_of_change (C := Tryz.checked) own started (by kernel_rfl) Tryz.func8
    (ChangeSpec.witness6 (enc := enc) (C := Tryz.checked) false ⟨#[], #[.agg #[.int .i64 0, .slice none 0 0, .slice none 0 0, .slice none 0 0, .slice none 0 0], .agg #[.int .i64 0, .int .i64 0]], []⟩ 8 (by kernel_rfl) (by kernel_rfl) (by kernel_rfl) (by kernel_rfl)) ?_
  intro W base args ds gs before hval0 hW hcnd _
  have hval : ∀ (j : Nat) t v, Tryz.f8.params[j]? = some t → args[j]? = some v → Value.okWide Tryz.prog W .any base t v := hval0
  have hW' := hW
  obtain ⟨p, q, hA0, hV, rfl, hfz, hnd⟩ := hW
  have hA : DataW.TrodAll enc Tryz.prog W 0 (fun _ => true) true Tryz.f8.params.toList args.toList ds p := hA0
  rw [Tryz.params8] at hA hval
  have hA1 := hA
  obtain ⟨v0, vs0, d0, ds0, p0, q0, hargs, rfl, rfl, h0, r0⟩ := trodAll_cons hA
  obtain ⟨v1, vs1, d1, ds1, p1, q1, rfl, rfl, rfl, h1, r1⟩ := trodAll_cons r0
  obtain ⟨rfl, rfl, rfl⟩ := trodAll_nil r1
  obtain rfl : args = #[v0, v1] := by cases args; simp_all
  obtain ⟨rfl, rfl⟩ := trodVars_none hV
  have k0 := h0
  have lt0 : ∀ x ∈ p0, x.block < W.heap.size := by obtain ⟨m, hm⟩ := k0; exact DataW.trod_lt m _ _ _ hm
  have k1 := h1
  have lt1 : ∀ x ∈ p1, x.block < W.heap.size := by obtain ⟨m, hm⟩ := k1; exact DataW.trod_lt m _ _ _ hm
  have hwalk := Vam.law_walk (P := Tryz.prog) (f := 8) (ts := [27, 29]) (w := W) (base := base) works.mixed knownW hA1 plainArgs (fun j t v g1 g2 => hval j t v (by simpa using g1) g2) allF (Vam.ginv_none fun _ => rfl)
  clear hA0 hval0
  refine hwalk.mono fun e W' ⟨he, bel⟩ => ?_
  subst he
  exact ⟨_, rfl, _, _, _, [], _, [], hW', trodAll_mk1 (shut_bool Tryz.underlying4 _), (trodAll_cons_mk (Below.trod laidOut (by kernel_rfl) (of_decide_eq_true (by kernel_rfl)) k0 bel lt0) (trodAll_cons_mk (Below.trod laidOut (by kernel_rfl) (of_decide_eq_true (by kernel_rfl)) k1 bel lt1) trodAll_mk0)), rfl, bel.frame _, fun h => by cases h⟩
theorem over : Rows.settleEndsRow.holds Tryz.pinned (OpenSpec.ofChange Rows.settleEndsSpec) :=
  OpenClaim.holds_of_wide 8 Tryz.f8 rfl rfl rfl rfl rfl rfl rfl ⟨rfl, rfl, rfl, rfl, rfl⟩ rfl rfl rfl rfl rfl (by kernel_rfl) Tryz.func8 (by kernel_rfl)
    (of_decide_eq_true (by kernel_rfl)) (by unfold Func.isWrapper; first | (rw [if_pos (by decide +kernel)]; kernel_rfl) | (rw [if_neg (by decide +kernel)]; exact ⟨rfl, rfl⟩))
    (fun os started H enc _ => lifted os started H enc)
theorem proved : Rows.SettleEndsSaid :=
  over
#print axioms proved
end Go.Proofs.YtpckmojdekdbbaaGreat.settleEnds
