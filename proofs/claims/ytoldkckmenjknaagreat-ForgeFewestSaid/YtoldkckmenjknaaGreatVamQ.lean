/- The plain machine (VamUO VamUP VamUQ VamUR VamUS VamUT VamUV VamUW VamUX VamUY VamUZ): part of a proof by a machine of plain values that is proved right. -/
import Derived.Test.YtoldkckmenjknaaGreatVamP
namespace Vam
set_option linter.unusedVariables false
set_option linter.unusedSimpArgs false
open Go
variable {Pr : Prt} {φ φ' ψ : BMap} {S S' R : SMap} {s s' : St} {tm tm' : TT} {H H' : CH} {P : Program} {is : FuncId → Bool} {orc : Known}
def flatC (u : U) : Bool := match u with
  | .int _ _ => true
  | .bool _ => true
  | .str _ => true
  | _ => false
def flatK (u : U) : Bool := match u with
  | .agg cs => cs.all flatC
  | u => flatC u
def val1 (u : U) : V := match u with
  | .int k n => .int k n
  | .bool b => .bool b
  | .str s => .str s
  | _ => undef
noncomputable def valK (u : U) : V := match u with
  | .agg cs => .agg (ofList (cs.map val1))
  | u => val1 u
theorem val1_of {v : V} {u : U} (h : VU φ S v u) (hf : flatC u = true) : v = val1 u := by
  cases h <;> first | rfl | cases hf
theorem valL_of {l : List V} {us : List U} (h : LU φ S l us) (hf : us.all flatC = true) : l = us.map val1 := by
  induction us generalizing l with
  | nil => cases h; rfl
  | cons u us ih =>
    cases h with
    | cons x l _ _ h1 h2 =>
      simp only [List.all_cons, Bool.and_eq_true] at hf
      rw [val1_of h1 hf.1, ih h2 hf.2]; rfl
theorem valK_of {v : V} {u : U} (h : VU φ S v u) (hf : flatK u = true) : v = valK u := by
  cases h with
  | agg l cs h1 => show V.agg (ofList l) = _; rw [valL_of h1 hf]; rfl
  | int k n => rfl
  | bool b => rfl
  | str s => rfl
  | _ => cases hf
section ops
variable {all l : List Oper} {d : Nat} {xt yt t : TypeId} {p : String} {e : Array Edge} {Q : St → Prop} {x y : Operand} {u w : U} {a off : Nat} {cs : List U}
theorem o_binK {op : BinOp} {b : Bool} (hd : Nat.blt d 1024 = true) (hx : evalU s x = u) (hy : evalU s y = w) (fu : flatK u = true) (fw : flatK w = true) (he : binV P xt op (valK u) (valK w) = some (.bool b)) (k : WpO P is orc all l (s.put d (.bool b)) Q) :
    WpO P is orc all (⟨some d, .binOp op xt x y yt, t, p, e, none⟩ :: l) s Q := by
  refine o_pure hd (fun w => rfl) (fun Pr φ S tm H hs => ⟨.bool b, fun E => ?_, .bool b⟩) k
  have h1 := evalU_rel hs x
  have h2 := evalU_rel hs y
  rw [hx] at h1; rw [hy] at h2
  show pure1 H (binV P xt op (evalO tm x) (evalO tm y)) = _
  rw [valK_of h1 fu, valK_of h2 fw, he]; rfl
end ops
end Vam
namespace Vam
set_option linter.unusedVariables false
set_option linter.unusedSimpArgs false
open Go
variable {Pr : Prt} {φ φ' ψ : BMap} {S S' R : SMap} {s s' : St} {tm tm' : TT} {H H' : CH} {P : Program} {is : FuncId → Bool} {orc : Known}
noncomputable def St.frz (s : St) (a : Nat) (cs : List U) : St := ⟨s.fr, keepAl (fun p => !(p.2.isCell a)) s.al, s.st.set a (.froz (cs.map dg))⟩
theorem SR.freeze (hs : SR Pr φ S s tm H) {a : Nat} {cs : List U} (hst : s.st[a]? = some (.box cs)) {b : Id} (hφ : φ a = some b) {m : List V} {e : TypeId} (hg : H.get b = some (.cells (ofList m) e 0 [])) (hm : LU φ S m cs) :
    SR Pr φ (S.with b m) (s.frz a cs) tm H ∧ S.le (S.with b m) := by
  obtain ⟨d1, d2, d3, d4⟩ := hs.dom a b hφ
  have hnone : S b = none := by
    cases h : S b with
    | none => rfl
    | some l =>
      obtain ⟨cs', hc⟩ := (hs.mem b l h).2.2.1 a hφ
      rw [hst] at hc; cases hc
  have hle := SMap.le_with m hnone
  have hfr : ∀ (a' : Nat), (∃ cs, s.st[a']? = some (SB.froz cs)) → ∃ cs', (s.st.set a (.froz (cs.map dg)))[a']? = some (SB.froz cs') := by
    rintro a' ⟨cs', hc⟩
    have hne' : a' ≠ a := by rintro rfl; rw [hst] at hc; cases hc
    exact ⟨cs', by rw [List.getElem?_set_ne (Ne.symm hne')]; exact hc⟩
  have key : ∀ lo v u, At φ (s.frz a cs) tm H lo v u → At φ s tm H lo v u := by
    intro lo v u ha
    cases ha with
    | slot i hi => exact .slot i hi
    | cell c o b' cs' l e _ _ q1 q2 q3 q4 q5 =>
      have q1 : (s.st.set a (.froz (cs.map dg)))[c]? = some (.box cs') := q1
      have ec : c ≠ a := by rintro rfl; rw [List.getElem?_set_self d3] at q1; cases q1
      rw [List.getElem?_set_ne (Ne.symm ec)] at q1
      exact .cell c o b' cs' l e _ _ q1 q2 q3 q4 q5
  refine ⟨⟨hs.nok, hs.fzn, fun i hi => (hs.fr i hi).mono φ.le_refl hle, ?_, ?_, hs.inj, ?_, fun lo v u c ha hc => hs.own lo v u c (key _ _ _ ha) hc, fun lo lo' v u v' u' c ha ha' hc hc' => hs.excl lo lo' v u v' u' c (key _ _ _ ha) (key _ _ _ ha') hc hc', ?_, ?_, ?_⟩, hle⟩
  · intro c x hx
    have hx : (s.st.set a (.froz (cs.map dg)))[c]? = some x := hx
    by_cases ec : c = a
    · subst ec
      rw [List.getElem?_set_self d3] at hx
      cases hx
      exact ⟨b, m, hφ, SMap.with_self _ _ _, (LU.dgs hm).mono φ.le_refl hle⟩
    · rw [List.getElem?_set_ne (Ne.symm ec)] at hx
      exact (hs.bx c x hx).move φ.le_refl hle fun _ _ => rfl
  · intro c b' hc
    obtain ⟨q1, q2, q3, q4⟩ := hs.dom c b' hc
    exact ⟨q1, q2, by show c < (s.st.set a _).length; simpa using q3, q4⟩
  · intro c l hc
    unfold SMap.with at hc
    split at hc
    · rename_i ec; subst ec; cases hc
      refine ⟨d1, d2, fun a' ha' => ?_, .inl ⟨e, 0, [], hg, by decide⟩⟩
      have := hs.inj a' a c ha' hφ
      subst this
      exact ⟨_, by show (s.st.set a' _)[a']? = _; rw [List.getElem?_set_self d3]⟩
    · obtain ⟨q1, q2, q3, q4⟩ := hs.mem c l hc
      exact ⟨q1, q2, fun a' ha' => hfr a' (q3 a' ha'), q4⟩
  · intro p hp
    have hp : p ∈ keepAl (fun p => !(p.2.isCell a)) s.al := hp
    rw [keepAl_eq] at hp
    obtain ⟨p1, p2⟩ := List.mem_filter.1 hp
    obtain ⟨q1, v, u, q2, q3⟩ := hs.ali p p1
    refine ⟨q1, v, u, ?_, q3⟩
    cases hlo : p.2 with
    | slot i => rw [hlo] at q2; cases q2 with | slot _ hi => exact .slot i hi
    | cell c o =>
      rw [hlo] at q2
      have ec : c ≠ a := by rintro rfl; rw [hlo] at p2; simp [Lo.isCell] at p2
      cases q2 with
      | cell _ _ b' cs2 l2 e2 _ _ k1 k2 k3 k4 k5 => exact .cell c o b' cs2 l2 e2 _ _ (by show (s.st.set a _)[c]? = _; rw [List.getElem?_set_ne (Ne.symm ec)]; exact k1) k2 k3 k4 k5
  · intro c hc
    obtain ⟨q1, q2, q3, q4⟩ := hs.prot c hc
    exact ⟨q1, q2, fun a' ha' => hfr a' (q3 a' ha'), fun lo v u ha => q4 lo v u (key _ _ _ ha)⟩
  · intro c hc
    obtain ⟨q1, q2⟩ := hs.pnew c hc
    refine ⟨q1, ?_⟩
    unfold SMap.with
    rw [if_neg]; exact q2
    rintro rfl; exact hs.pnew_ne hc a hφ
section ops
variable {all l : List Oper} {d : Nat} {xt t t' : TypeId} {p : String} {e : Array Edge} {Q : St → Prop} {x : Operand} {u : U} {a off : Nat} {cs es : List U}
def natO (s : St) (o : Option Operand) (d l : Nat) : Prop := match o with
  | none => l = d
  | some x => ∃ k, evalU s x = .int k (l : Int)
theorem natO_run (hs : SR Pr φ S s tm H) {o : Option Operand} {d l : Nat} (h : natO s o d l) : (o = none ∧ l = d) ∨ ∃ x k, o = some x ∧ evalOpt tm o = some (.int k (l : Int)) := by
  cases o with
  | none => exact .inl ⟨rfl, h⟩
  | some x =>
    obtain ⟨k, h⟩ := h
    have h1 := evalU_rel hs x
    rw [h] at h1
    exact .inr ⟨x, k, rfl, by show some (evalO tm x) = _; rw [int_of h1]⟩
theorem bounds_run (hs : SR Pr φ S s tm H) {lo hi mx : Option Operand} {n l h m : Nat} (hm : natO s mx n m) (hh : natO s hi n h) (hl : natO s lo 0 l) (h3 : mx = none ∨ hi ≠ none) (h0 : l ≤ h) (h1 : h ≤ m) (h2 : m ≤ n) :
    opt (some n) (sliceB n) (evalOpt tm mx) = some m ∧ sliceB3 n m (evalOpt tm lo) (evalOpt tm hi) (evalOpt tm mx) = some (l, h) := by
  have lo1 : opt (some 0) (sliceB h) (evalOpt tm lo) = some l := by
    rcases natO_run hs hl with ⟨rfl, rfl⟩ | ⟨x, k, rfl, e⟩
    · rfl
    · rw [e]
      show cond (Nat.ble l h) (some l) none = _
      rw [show Nat.ble l h = true by rw [Nat.ble_eq]; exact h0]; rfl
  have hi1 : opt (opt (some n) (fun _ => none) (evalOpt tm mx)) (sliceB m) (evalOpt tm hi) = some h := by
    rcases natO_run hs hh with ⟨rfl, rfl⟩ | ⟨x, k, rfl, e⟩
    · rcases h3 with rfl | h3
      · rfl
      · exact absurd rfl h3
    · rw [e]
      show cond (Nat.ble h m) (some h) none = _
      rw [show Nat.ble h m = true by rw [Nat.ble_eq]; exact h1]; rfl
  refine ⟨?_, ?_⟩
  · rcases natO_run hs hm with ⟨rfl, rfl⟩ | ⟨x, k, rfl, e⟩
    · rfl
    · rw [e]
      show cond (Nat.ble m n) (some m) none = _
      rw [show Nat.ble m n = true by rw [Nat.ble_eq]; exact h2]; rfl
  · show opt none (fun h => opt none (fun l => some (l, h)) (opt (some 0) (sliceB h) (evalOpt tm lo))) (opt (opt (some n) (fun _ => none) (evalOpt tm mx)) (sliceB m) (evalOpt tm hi)) = _
    rw [hi1]
    show opt none (fun l => some (l, h)) (opt (some 0) (sliceB h) (evalOpt tm lo)) = _
    rw [lo1]; rfl
theorem o_sliceA {lo hi mx : Option Operand} {el : TypeId} {n c l1 h1 m1 : Nat} (hd : Nat.blt d 1024 = true) (ht : tyOf P xt = .array n el) (hc : P.cellsOf el = c) (h0 : Nat.blt 0 c = true) (hx : evalU s x = .box a off) (hb : s.st[a]? = some (.box cs)) (hbig : Nat.ble (off + n * c) cs.length = true)
    (hm : natO s mx n m1) (hh : natO s hi n h1) (hl : natO s lo 0 l1) (hn : mx = none ∨ hi ≠ none) (b0 : l1 ≤ h1) (b1 : h1 ≤ m1) (b2 : m1 ≤ n) (hes : flatU es = ((cs.map dg).drop (off + l1 * c)).take ((h1 - l1) * c)) (hez : ∀ e ∈ es, (cellsU e).length = c) (hel : es.length = h1 - l1)
    (k : WpO P is orc all l ((s.frz a cs).put d (.lst .ro c es)) Q) : WpO P is orc all (⟨some d, .slice xt x lo hi mx, t, p, e, none⟩ :: l) s Q := by
  have hbig := Nat.le_of_ble_eq_true hbig
  have h0 := blt_lt h0
  refine o_op (R := fun u s1 => u = .lst .ro c es ∧ s1 = s.frz a cs) hd ?_ fun u s1 h => by obtain ⟨rfl, rfl⟩ := h; exact k
  intro Pr φ S tm H hs
  have g1 := evalU_rel hs x
  rw [hx] at g1
  obtain ⟨b, g2, g3⟩ := box_of g1
  obtain ⟨b', m, ty, q1, q2, q3⟩ := hs.box a cs hb
  rw [g2] at q1; cases q1
  obtain ⟨f1, f2⟩ := hs.freeze hb g2 q2 q3
  obtain ⟨r1, r2⟩ := bounds_run hs hm hh hl hn b0 b1 b2
  have hrun : sliceV P xt (evalO tm x) (evalOpt tm lo) (evalOpt tm hi) (evalOpt tm mx) = sliceSl2 c b off m1 true l1 h1 := by
    unfold sliceV
    rw [ht, g3]
    show cond (isOver b) none (sliceArr (P.cellsOf el) n (evalOpt tm lo) (evalOpt tm hi) (evalOpt tm mx) b off) = _
    rw [isOver_wf (hs.dom a b g2).1]
    show sliceArr (P.cellsOf el) n (evalOpt tm lo) (evalOpt tm hi) (evalOpt tm mx) b off = _
    unfold sliceArr
    rw [r1, hc]
    show opt none (fun lh => sliceSl2 c b off m1 true lh.1 lh.2) (sliceB3 n m1 (evalOpt tm lo) (evalOpt tm hi) (evalOpt tm mx)) = _
    rw [r2]; rfl
  have hmul : l1 * c + (h1 - l1) * c ≤ n * c := by
    rw [← Nat.add_mul]; exact Nat.mul_le_mul_right _ (by omega)
  have hmlen : m.length = cs.length := q3.len
  have hL : LU φ (S.with b m) (((m.drop (off + l1 * c)).take ((h1 - l1) * c))) (flatU es) := by
    rw [hes]
    exact ((LU.dgs (LU.drop (q3.mono φ.le_refl f2) (off + l1 * c))).take _ |> fun h => by rwa [List.map_drop] at h)
  obtain ⟨v, hv1, hv2⟩ : ∃ v, sliceSl2 c b off m1 true l1 h1 = some v ∧ VU φ (S.with b m) v (.lst .ro c es) := by
    unfold sliceSl2
    by_cases e1 : m1 = l1
    · subst e1
      have : h1 = m1 := by omega
      subst this
      rw [Nat.beq_refl]
      refine ⟨_, rfl, ?_⟩
      have he : es = [] := by rw [Nat.sub_self] at hel; exact List.length_eq_zero_iff.1 hel
      subst he
      refine .slice b off (h1 - h1) (capX 0) c m [] (m.drop off) .ro [] (SMap.with_self _ _ _) (by simp) .nil (by simp) (by simp) ⟨by omega, by rw [Nat.sub_self]; exact Nat.zero_le _, trivial⟩ h0
    · rw [beq_ne e1]
      refine ⟨_, rfl, ?_⟩
      refine .slice b (off + l1 * c) (h1 - l1) (capX (m1 - l1)) c m _ ((m.drop (off + l1 * c)).drop ((h1 - l1) * c)) .ro es (SMap.with_self _ _ _) (List.take_append_drop _ _).symm hL hez hel ⟨by omega, ?_, trivial⟩ h0
      show h1 - l1 ≤ (2 * (m1 - l1) + 1) / 2
      omega
  refine ⟨v, _, _, H, φ, S.with b m, ⟨0, fun n _ => ?_⟩, f1, φ.le_refl, f2, Kept.refl _ _, hv2, NewOk.none rfl, rfl, rfl⟩
  show pure1 H (sliceV P xt (evalO tm x) (evalOpt tm lo) (evalOpt tm hi) (evalOpt tm mx)) = _
  rw [hrun, hv1]; rfl
end ops
end Vam
namespace Vam
set_option linter.unusedVariables false
set_option linter.unusedSimpArgs false
open Go
variable {Pr : Prt} {φ φ' ψ : BMap} {S S' R : SMap} {s s' : St} {tm tm' : TT} {H H' : CH} {P : Program} {is : FuncId → Bool} {orc : Known}
theorem o_idx1 {all l : List Oper} {d : Nat} {x y : Operand} {xt t el : TypeId} {p : String} {e : Array Edge} {Q : St → Prop} {cs : List U} {u : U} {n c : Nat} {ki : IntKind} {i : Int} (hd : Nat.blt d 1024 = true) (ht : tyOf P xt = .array n el) (hx : evalU s x = .agg cs) (hi : evalU s y = .int ki i) (h0 : 0 ≤ i) (he : i < n)
    (hc : P.cellsOf el = c) (hsh : shOf P el = .one) (hu : cs[i.toNat * c]? = some u) (k : WpO P is orc all l (s.put d (dg u)) Q) : WpO P is orc all (⟨some d, .index xt x y, t, p, e, none⟩ :: l) s Q := by
  refine o_pure hd (fun w => ownId_dg w u) (fun Pr φ S tm H hs => ?_) k
  have h1 := evalU_rel hs x
  rw [hx] at h1
  obtain ⟨m, g1, g2⟩ := agg_of h1
  have h2 := evalU_rel hs y
  rw [hi] at h2
  have h2 := int_of h2
  obtain ⟨j, rfl⟩ : ∃ j : Nat, i = j := ⟨i.toNat, by omega⟩
  obtain ⟨v, h4, h5⟩ := g2.get hu
  refine ⟨v, fun E => ?_, h5.dg⟩
  show oIndex P xt (evalO tm x) (evalO tm y) H = _
  unfold oIndex
  rw [ht, g1, h2]
  show cond (Nat.ble (Nat.succ j) n) (pure1 H (partV P el (ofList m) (Nat.mul j (P.cellsOf el)))) .no = _
  rw [show Nat.ble (Nat.succ j) n = true by rw [Nat.ble_eq]; omega, hc]
  show pure1 H (partV P el (ofList m) (j * c)) = _
  rw [part_one hsh (by simpa using h4)]; rfl
theorem k_gen {c : Code} {Q : Ex → St → Prop} (l : List (Nat × U)) (st : List SB) (h1 : Holds s l) (h2 : s.st = st) (k : ∀ fr : Nat → U, Wp P is orc c ⟨fun j => lookU l j (fr j), [], st⟩ Q) : Wp P is orc c s Q := by
  rw [h1.eq]
  subst h2
  exact k s.fr
theorem SR.forget (h : SR Pr φ S s tm H) {fr : Nat → U} (hfr : ∀ i, fr i = s.fr i ∨ fr i = .junk) : SR Pr φ S ⟨fr, [], s.st⟩ tm H := by
  have key : ∀ lo v u, At φ ⟨fr, [], s.st⟩ tm H lo v u → At φ s tm H lo v u ∨ ownId v u = none := by
    intro lo v u ha
    cases ha with
    | slot i hi =>
      rcases hfr i with e | e
      · show At φ s tm H (.slot i) (tm.get i) (fr i) ∨ _
        rw [e]; exact .inl (.slot i hi)
      · right
        show ownId _ (fr i) = none
        rw [e]; rfl
    | cell a o b cs l e _ _ h1 h2 h3 h4 h5 => exact .inl (.cell a o b cs l e _ _ h1 h2 h3 h4 h5)
  refine ⟨h.nok, h.fzn, fun i hi => ?_, h.bx, h.dom, h.inj, h.mem, ?_, ?_, fun p hp => (by cases hp), ?_, h.pnew⟩
  · rcases hfr i with e | e
    · show VU φ S _ (fr i); rw [e]; exact h.fr i hi
    · show VU φ S _ (fr i); rw [e]; exact .junk _
  · intro lo v u b ha hb
    rcases key _ _ _ ha with ha | hq
    · exact h.own lo v u b ha hb
    · rw [hq] at hb; cases hb
  · intro lo lo' v u v' u' b ha ha' hb hb'
    rcases key _ _ _ ha with ha | hq
    · rcases key _ _ _ ha' with ha' | hq
      · exact h.excl lo lo' v u v' u' b ha ha' hb hb'
      · rw [hq] at hb'; cases hb'
    · rw [hq] at hb; cases hb
  · intro b hb
    obtain ⟨q1, q2, q3, q4⟩ := h.prot b hb
    refine ⟨q1, q2, q3, fun lo v u ha => ?_⟩
    rcases key _ _ _ ha with ha | hq
    · exact q4 lo v u ha
    · rw [hq]; simp
theorem k_forget {c : Code} {Q : Ex → St → Prop} (l : List (Nat × U)) (st : List SB) (h1 : Holds s l) (h2 : s.st = st) (k : Wp P is orc c ⟨fun j => lookU l j .junk, [], st⟩ Q) : Wp P is orc c s Q := by
  intro Pr φ S tm H ds ro fn hs ho hr
  refine k Pr φ S tm H ds ro fn ?_ ho hr
  rw [← h2]
  refine hs.forget fun i => ?_
  have key : ∀ l : List (Nat × U), (∀ p ∈ l, s.fr p.1 = p.2) → lookU l i .junk = s.fr i ∨ lookU l i .junk = .junk := by
    intro l
    induction l with
    | nil => intro _; exact .inr rfl
    | cons p l ih =>
      intro hp
      obtain ⟨j, u⟩ := p
      show cond (Nat.beq i j) u (lookU l i .junk) = _ ∨ cond (Nat.beq i j) u (lookU l i .junk) = _
      by_cases e : i = j
      · subst e
        rw [Nat.beq_refl]
        exact .inl (hp (i, u) List.mem_cons_self).symm
      · rw [beq_ne e]
        exact ih fun q hq => hp q (List.mem_cons_of_mem _ hq)
  exact key l h1.2
end Vam
namespace Vam
set_option linter.unusedVariables false
set_option linter.unusedSimpArgs false
open Go
variable {Pr : Prt} {φ φ' ψ : BMap} {S S' R : SMap} {s s' : St} {tm tm' : TT} {H H' : CH} {P : Program} {is : FuncId → Bool} {orc : Known}
theorem VU.undef : VU φ S undef (.tup []) := UR.tup [] [] .nil
theorem own_undef : ownId undef (.tup []) = none := rfl
theorem undef_of {v : V} (h : VU φ S v (.tup [])) : v = undef := by
  cases h with
  | tup l us h => cases h; rfl
theorem want_known {all : List Oper} {g : Nat} {want : Bool} {og : Oper} {j : Nat} {c : Bool} (hs : SR Pr φ S s tm H) (hg : nthO all g = some og) (hj : og.dst = some j) (hc : s.slot j = .bool c) : wantB all tm (g, want) = bEq c want := by
  have hv := evalU_rel hs (.tmp j)
  rw [show evalU s (.tmp j) = .bool c from hc] at hv
  have hv : tm.get j = .bool c := bool_of hv
  show opt false (fun b => bEq b want) (opt none (fun o => opt none (fun d => onBool none (fun b => some b) (tm.get d)) (dstOf o)) (nthO all g)) = _
  rw [hg]
  show opt false (fun b => bEq b want) (opt none (fun d => onBool none (fun b => some b) (tm.get d)) og.dst) = _
  rw [hj]
  show opt false (fun b => bEq b want) (onBool none (fun b => some b) (tm.get j)) = _
  rw [hv]; rfl
theorem want_dead {all : List Oper} {g : Nat} {want : Bool} {og : Oper} {j : Nat} (hs : SR Pr φ S s tm H) (hg : nthO all g = some og) (hj : og.dst = some j) (hc : s.slot j = .tup []) : wantB all tm (g, want) = false := by
  have hv := evalU_rel hs (.tmp j)
  rw [show evalU s (.tmp j) = .tup [] from hc] at hv
  have hv : tm.get j = undef := undef_of hv
  show opt false (fun b => bEq b want) (opt none (fun o => opt none (fun d => onBool none (fun b => some b) (tm.get d)) (dstOf o)) (nthO all g)) = _
  rw [hg]
  show opt false (fun b => bEq b want) (opt none (fun d => onBool none (fun b => some b) (tm.get d)) og.dst) = _
  rw [hj]
  show opt false (fun b => bEq b want) (onBool none (fun b => some b) (tm.get j)) = _
  rw [hv]; rfl
theorem o_left {all l : List Oper} {dst : Option Nat} {o : Op} {t : TypeId} {p : String} {a : Array Edge} {g : Nat} {want : Bool} {Q : St → Prop} (hd : okDst 1024 dst = true) (hw : ∀ Pr φ S tm H, SR Pr φ S s tm H → wantB all tm (g, want) = false)
    (h2 : WpO P is orc all l (s.dst dst (.tup [])) Q) : WpO P is orc all (⟨dst, o, t, p, a, some (g, want)⟩ :: l) s Q := by
  intro Pr φ S tm H hs
  obtain ⟨s2, tm2, H2, φ2, S2, ⟨n2, k1⟩, k2⟩ := h2 Pr φ S _ H (setT_put hs hd VU.undef (NewOk.none own_undef))
  refine ⟨s2, tm2, H2, φ2, S2, ⟨n2, fun n hn => ?_⟩, k2⟩
  show opsIf P (runEvW true P is orc n) dst o tm H (evOps P (runEvW true P is orc n) all l) (wantB all tm (g, want)) = _
  rw [hw _ _ _ _ _ hs]
  exact k1 n hn
theorem o_guardX {all l : List Oper} {dst : Option Nat} {o : Op} {t : TypeId} {p : String} {a : Array Edge} {g : Nat} {want : Bool} {og : Oper} {j : Nat} {c : Bool} {Q : St → Prop} (hd : okDst 1024 dst = true)
    (hg : nthO all g = some og) (hj : og.dst = some j) (hc : s.slot j = .bool c)
    (h1 : c = want → WpO P is orc all (⟨dst, o, t, p, a, none⟩ :: l) s Q) (h2 : c = !want → WpO P is orc all l (s.dst dst (.tup [])) Q) : WpO P is orc all (⟨dst, o, t, p, a, some (g, want)⟩ :: l) s Q := by
  by_cases e : c = want
  · exact o_guard hd hg hj hc h1 fun h => by cases c <;> cases want <;> cases e <;> cases h
  · have e' : c = !want := by cases c <;> cases want <;> simp_all
    refine o_left hd (fun Pr φ S tm H hs => ?_) (h2 e')
    rw [want_known hs hg hj hc]; subst e'; cases want <;> rfl
theorem o_dead {all l : List Oper} {dst : Option Nat} {o : Op} {t : TypeId} {p : String} {a : Array Edge} {g : Nat} {want : Bool} {og : Oper} {j : Nat} {Q : St → Prop} (hd : okDst 1024 dst = true)
    (hg : nthO all g = some og) (hj : og.dst = some j) (hc : s.slot j = .tup []) (h2 : WpO P is orc all l (s.dst dst (.tup [])) Q) : WpO P is orc all (⟨dst, o, t, p, a, some (g, want)⟩ :: l) s Q :=
  o_left hd (fun _ _ _ _ _ hs => want_dead hs hg hj hc) h2
theorem d_left {all : List Oper} {dst : Option Nat} {o : Op} {t : TypeId} {p : String} {a : Array Edge} {m0 : M0} {l : List (Oper × M0)} {g : Nat} {want : Bool} {Q : St → Prop} (hd : okDst 1024 dst = true)
    (hw : ∀ Pr φ S tm H, SR Pr φ S s tm H → wantB all tm (g, want) = false) (h2 : WpD P is orc all l (s.dst dst (.tup [])) Q) : WpD P is orc all ((⟨dst, o, t, p, a, some (g, want)⟩, m0) :: l) s Q := by
  intro Pr φ S tm H m hm hp hs
  obtain ⟨md, m', rfl, hm2⟩ : ∃ md m', m = (⟨dst, o, t, p, a, some (g, want)⟩, md) :: m' ∧ Mt P H l m' := by
    cases hm with
    | plain _ _ m hm => exact ⟨_, m, rfl, hm⟩
    | quiet _ _ m hm => exact ⟨_, m, rfl, hm⟩
    | read _ ld _ m hm => exact ⟨_, m, rfl, hm⟩
    | pre _ i x _ m q1 q2 hm => exact ⟨_, m, rfl, hm⟩
    | lay _ i _ m hm => exact ⟨_, m, rfl, hm⟩
  have hw : wantO all tm (some (g, want)) = false := hw _ _ _ _ _ hs
  have hin : ∀ b, b ∈ pend m' → b ∈ pend ((⟨dst, o, t, p, a, some (g, want)⟩, md) :: m') := by
    intro b hb
    cases hmd : mdId md with
    | none => simpa [pend, hmd] using hb
    | some i => simp only [pend, List.filterMap_cons, hmd]; exact List.mem_cons_of_mem _ hb
  have hnd : (pend m').Nodup := by
    have := hp.nodup
    cases hmd : mdId md with
    | none => simpa [pend, hmd] using this
    | some i => simp only [pend, List.filterMap_cons, hmd] at this; exact (List.nodup_cons.1 this).2
  have hs' : SR (Pr.and (pend m')) φ S s tm H := hs.weaken (fun b hb => hb.imp id (hin b)) fun b hb => by
    obtain ⟨q1, q2⟩ := hs.pnew b (hb.imp id (hin b))
    rcases hb with hb | hb
    · exact ⟨.inl (Pr.s b hb), q2⟩
    · exact ⟨.inr hb, q2⟩
  refine d_step ⟨0, fun n hn => ?_⟩ φ.le_refl S.le_refl (Kept.refl _ _) hm2 ⟨hnd, fun i hi => hp.ok i (hin i hi), fun i hi => hp.out i (hin i hi), fun i hi => hp.odd i (hin i hi)⟩ (setT_put hs' hd VU.undef (NewOk.none own_undef)) h2
  show cond (wantO all tm (some (g, want))) (drawGo dst tm (drawOp P (runEvW true P is orc n) tm H md o)) (.ok (setT tm dst undef) H) = _
  rw [hw]; rfl
theorem d_guardX {all : List Oper} {dst : Option Nat} {o : Op} {t : TypeId} {p : String} {a : Array Edge} {m0 : M0} {l : List (Oper × M0)} {g : Nat} {want : Bool} {og : Oper} {j : Nat} {c : Bool} {Q : St → Prop} (hd : okDst 1024 dst = true)
    (hg : nthO all g = some og) (hj : og.dst = some j) (hc : s.slot j = .bool c)
    (h1 : c = want → WpD P is orc all ((⟨dst, o, t, p, a, none⟩, m0) :: l) s Q) (h2 : c = !want → WpD P is orc all l (s.dst dst (.tup [])) Q) : WpD P is orc all ((⟨dst, o, t, p, a, some (g, want)⟩, m0) :: l) s Q := by
  by_cases e : c = want
  · exact d_guard hd hg hj hc h1 fun h => by cases c <;> cases want <;> cases e <;> cases h
  · have e' : c = !want := by cases c <;> cases want <;> simp_all
    refine d_left hd (fun Pr φ S tm H hs => ?_) (h2 e')
    rw [want_known hs hg hj hc]; subst e'; cases want <;> rfl
end Vam
namespace Vam
open Go
variable {s : St} {P : Program} {is : FuncId → Bool} {orc : Known}
section short
variable {all l : List Oper} {dst : Option Nat} {o : Op} {t : TypeId} {p : String} {a : Array Edge} {g : Nat} {want : Bool} {og : Oper} {j : Nat} {c : Bool} {Q : St → Prop}
theorem o_gD (hd : okDst 1024 dst = true) (hg : nthO all g = some og) (hj : og.dst = some j) (hc : s.slot j = .bool c) (e : c = want) (h1 : WpO P is orc all (⟨dst, o, t, p, a, none⟩ :: l) s Q) : WpO P is orc all (⟨dst, o, t, p, a, some (g, want)⟩ :: l) s Q :=
  o_guard hd hg hj hc (fun _ => h1) fun h => by cases c <;> cases want <;> cases e <;> cases h
theorem o_gS (hd : okDst 1024 dst = true) (hg : nthO all g = some og) (hj : og.dst = some j) (hc : s.slot j = .bool c) (e : c = !want) (h2 : WpO P is orc all l (s.dst dst (.tup [])) Q) : WpO P is orc all (⟨dst, o, t, p, a, some (g, want)⟩ :: l) s Q :=
  o_guardX hd hg hj hc (fun h => by cases c <;> cases want <;> cases e <;> cases h) fun _ => h2
variable {m0 : M0} {m : List (Oper × M0)}
theorem d_gD (hd : okDst 1024 dst = true) (hg : nthO all g = some og) (hj : og.dst = some j) (hc : s.slot j = .bool c) (e : c = want) (h1 : WpD P is orc all ((⟨dst, o, t, p, a, none⟩, m0) :: m) s Q) : WpD P is orc all ((⟨dst, o, t, p, a, some (g, want)⟩, m0) :: m) s Q :=
  d_guard hd hg hj hc (fun _ => h1) fun h => by cases c <;> cases want <;> cases e <;> cases h
theorem d_gS (hd : okDst 1024 dst = true) (hg : nthO all g = some og) (hj : og.dst = some j) (hc : s.slot j = .bool c) (e : c = !want) (h2 : WpD P is orc all m (s.dst dst (.tup [])) Q) : WpD P is orc all ((⟨dst, o, t, p, a, some (g, want)⟩, m0) :: m) s Q :=
  d_guardX hd hg hj hc (fun h => by cases c <;> cases want <;> cases e <;> cases h) fun _ => h2
end short
theorem k_cT {x : Operand} {a b : Code} {c : Bool} {Q : Ex → St → Prop} (hx : evalU s x = .bool c) (e : c = true) (h : Wp P is orc a s Q) : Wp P is orc (.cond x a b) s Q := k_cond hx (fun _ => h) fun h' => by rw [e] at h'; cases h'
theorem k_cF {x : Operand} {a b : Code} {c : Bool} {Q : Ex → St → Prop} (hx : evalU s x = .bool c) (e : c = false) (h : Wp P is orc b s Q) : Wp P is orc (.cond x a b) s Q := k_cond hx (fun h' => by rw [e] at h'; cases h') fun _ => h
end Vam
namespace Vam
set_option linter.unusedVariables false
set_option linter.unusedSimpArgs false
open Go
variable {s : St} {P : Program} {is : FuncId → Bool} {orc : Known}
section shifts
variable {all l : List Oper} {d : Nat} {x y : Operand} {xt yt t : TypeId} {p : String} {e : Array Edge} {a b : Int} {Q : St → Prop}
end shifts
end Vam
namespace Vam
set_option linter.unusedVariables false
set_option linter.unusedSimpArgs false
open Go
variable {Pr : Prt} {φ φ' ψ : BMap} {S S' R : SMap} {s s' : St} {tm tm' : TT} {H H' : CH} {P : Program} {is : FuncId → Bool} {orc : Known}
end Vam
namespace Vam
set_option linter.unusedVariables false
set_option linter.unusedSimpArgs false
open Go
variable {P : Program} {is : FuncId → Bool} {orc : Known}
section calls
variable {s : St} {all l : List Oper} {d : Option Nat} {g : FuncId} {xs : Array Operand} {ts : Array TypeId} {t : TypeId} {p : String} {e : Array Edge} {args : List U} {M : U → List SB → Prop} {Q : St → Prop}
end calls
end Vam
namespace Vam
set_option linter.unusedVariables false
set_option linter.unusedSimpArgs false
open Go
variable {P : Program} {is : FuncId → Bool} {orc : Known} {s : St}
theorem St.byList {l : List (Nat × U)} (h : Holds ⟨s.fr, [], s.st⟩ l) : s = ⟨fun j => lookU l j (s.fr j), s.al, s.st⟩ := by
  have := congrArg St.fr h.eq
  cases s with
  | mk fr al st =>
    have e : fr = fun j => lookU l j (fr j) := this
    show St.mk fr al st = St.mk (fun j => lookU l j (fr j)) al st
    rw [← e]
theorem o_genA {all m : List Oper} {Q : St → Prop} (l : List (Nat × U)) (al : List (Nat × Lo)) (st : List SB) (h1 : Holds ⟨s.fr, [], s.st⟩ l) (h2 : s.st = st) (h3 : s.al = al) (k : ∀ fr : Nat → U, WpO P is orc all m ⟨fun j => lookU l j (fr j), al, st⟩ Q) : WpO P is orc all m s Q := by
  rw [St.byList h1]
  subst h2; subst h3
  exact k s.fr
theorem d_genA {all : List Oper} {m : List (Oper × M0)} {Q : St → Prop} (l : List (Nat × U)) (al : List (Nat × Lo)) (st : List SB) (h1 : Holds ⟨s.fr, [], s.st⟩ l) (h2 : s.st = st) (h3 : s.al = al) (k : ∀ fr : Nat → U, WpD P is orc all m ⟨fun j => lookU l j (fr j), al, st⟩ Q) : WpD P is orc all m s Q := by
  rw [St.byList h1]
  subst h2; subst h3
  exact k s.fr
section slices
variable {Pr : Prt} {φ : BMap} {S : SMap} {tm : TT} {H : CH} {all l : List Oper} {d : Nat} {x : Operand} {xt t : TypeId} {p : String} {e : Array Edge} {Q : St → Prop} {es : List U}
end slices
end Vam
namespace Vam
set_option linter.unusedVariables false
set_option linter.unusedSimpArgs false
open Go
variable {Pr : Prt} {φ φ' ψ : BMap} {S S' R : SMap} {s s' : St} {tm tm' : TT} {H H' : CH} {P : Program} {is : FuncId → Bool} {orc : Known}
theorem sl_of {v : V} {a off len z : Nat} (h : VU φ S v (.sl a off len z)) : ∃ b cc, φ a = some b ∧ v = .slice b off len cc z ∧ len ≤ capN cc ∧ 0 < z := by
  cases h with
  | sl _ b _ _ cc _ h1 h2 h3 => exact ⟨b, cc, h1, rfl, h2, h3⟩
theorem first_runK {K : CH} (hK : ∀ b m, S b = some m → ReadsAs (K.get b) m) {v : V} {k : Kd} {z c : Nat} {es : List U} (h : VU φ S v (.lst k z es)) (hz : z = c ∨ z = 0) : ∃ m, firstCells K c es.length v = some (ofList m) ∧ LU φ S m (flatU es) ∧ ∀ e ∈ es, (cellsU e).length = c := by
  rcases lst_of h with ⟨rfl, h1 | ⟨_, h1⟩⟩ | ⟨b, off, cc, m, l1, l2, h1, h2, h3, h4, h5, h6, h7⟩
  · rw [h1]; exact ⟨[], rfl, .nil, by simp⟩
  · rw [h1]
    refine ⟨[], ?_, .nil, by simp⟩
    show readCells K .over 0 (0 * c) = _
    rw [Nat.zero_mul]; rfl
  · have hzc : z = c := by rcases hz with h | h <;> omega
    subst hzc
    have hl1 : l1.length = es.length * z := by rw [h4.len, flat_len h5]
    have hm : off + es.length * z ≤ m.length := by
      have := congrArg List.length h3
      simp at this
      have := h6.1
      omega
    refine ⟨l1, ?_, h4, h5⟩
    rw [h1]
    show readCells K b off (es.length * z) = _
    rw [read_of (hK b m h2) (.inr hm), h3, ← hl1]
    simp
section ops
variable {all l : List Oper} {d : Nat} {x y : Operand} {t t' t1 t2 xt el : TypeId} {p : String} {e : Array Edge} {a off n c bb z zy len : Nat} {cs es xs ys : List U} {u : U} {Q : St → Prop} {zv : V} {ky : Kd}
end ops
end Vam
namespace Vam
set_option linter.unusedVariables false
set_option linter.unusedSimpArgs false
open Go
variable {Pr : Prt} {φ φ' ψ : BMap} {S S' R : SMap} {s s' : St} {tm tm' : TT} {H H' : CH} {P : Program} {is : FuncId → Bool} {orc : Known}
theorem d_callVQ {all : List Oper} {l : List (Oper × M0)} {d : Option Nat} {g : FuncId} {xs : Array Operand} {ts : Array TypeId} {t : TypeId} {p : String} {e : Array Edge} {args A B : List U} {r : U} {Q : St → Prop} {x : Nat}
    (hd : okDst 1024 d = true) (hx : s.slot x = .fn g A B) (hr : RetP P is orc g args r) (hle : UW (.l (A ++ (evalUs s xs.toList ++ B))) (.l args)) (k : WpD P is orc all l (s.dst d (dg r)) Q) :
    WpD P is orc all ((⟨d, .call ⟨.value (.tmp x), xs, ts⟩, t, p, e, none⟩, .quiet) :: l) s Q := by
  intro Pr φ S tm H m0 hm hp hs
  cases hm with
  | quiet _ _ m hm =>
    have e0 : pend ((⟨d, .call ⟨.value (.tmp x), xs, ts⟩, t, p, e, none⟩, Md.quiet) :: m) = pend m := rfl
    rw [e0] at hp hs
    have hv := evalU_rel hs (.tmp x)
    rw [show evalU s (.tmp x) = _ from hx] at hv
    generalize hq : evalO tm (.tmp x) = w at hv
    cases hv with
    | fn _ VA VB _ _ a1 a2 =>
      have hl := UW.vu (LU.append a1 (LU.append (evalUs_rel hs xs.toList) a2)) hle
      have hl0 : LU φ0 S (VA ++ (xs.toList.map (evalO tm) ++ VB)) args := LU_all hl fun v u hu hv => hr.dat u hu _ _ _ hv
      have hmo : MemOk S H.freeze := ⟨by rw [freeze_n]; exact hs.nok, fun b l hb => by rw [freeze_n, freeze_get]; exact hs.memOk.mem b l hb⟩
      obtain ⟨n0, v, H', S', h1, h2, h3⟩ := hr.run S H.freeze _ hmo (by rw [freeze_fz, freeze_n]; exact Nat.le_of_eq (Id.top_num hs.nok)) hl0
      have hg : Grow2 S H S' (H'.thaw H.fz) := by
        refine ⟨by rw [thaw_n]; exact h2.nok, by rw [thaw_fz], by rw [thaw_n]; have := h2.num; rwa [freeze_n] at this, fun b hb => by rw [thaw_n]; exact h2.bef b (by rw [freeze_n]; exact hb), fun b hw hb => by rw [thaw_get, h2.get b hw (by rw [freeze_n]; exact hb), freeze_get], h2.le, fun b l q1 q2 => ?_⟩
        obtain ⟨w1, w2, w3, w4⟩ := h2.new b l q1 q2
        rw [freeze_n] at w2
        exact ⟨w1, w2, by rw [thaw_n]; exact w3, by rw [thaw_get]; exact w4⟩
      obtain ⟨g1, g2⟩ := hs.grow hg
      refine d_step ⟨n0, fun n hn => ?_⟩ φ.le_refl hg.le (g2.weaken (fun b hb => .inl hb) fun _ h => h) (hm.keep fun i hi => g2.get i (.inr hi)) ⟨hp.nodup, fun i hi => by rw [g2.fz]; exact hp.ok i hi, hp.out, hp.odd⟩
        (setT_put g1 hd (VU.dg (h3.mono (ψ := φ) (fun a b h => by cases h) S'.le_refl)) (NewOk.none (ownId_dg _ _))) k
      show drawGo d tm (thawR H.fz (invokeV (runEvW true P is orc n) (tm.get x) (evalL tm xs.toList) H.freeze)) = _
      rw [show tm.get x = _ from hq]
      show drawGo d tm (thawR H.fz ((runEvW true P is orc n).call g (appV (ofList VA) (appV (evalL tm xs.toList) (ofList VB))) H.freeze)) = _
      rw [evalL_of, appV_of, appV_of, h1 n hn]; rfl
theorem o_idxN {all l : List Oper} {d : Nat} {x y : Operand} {xt t el : TypeId} {p : String} {e : Array Edge} {Q : St → Prop} {cs : List U} {n c : Nat} {ki : IntKind} {i : Nat} (hd : Nat.blt d 1024 = true) (ht : tyOf P xt = .array n el) (hx : evalU s x = .agg cs) (hi : evalU s y = .int ki (i : Int)) (he : i < n)
    (hc : P.cellsOf el = c) (hsh : shOf P el = .many c) (hu : i * c + c ≤ cs.length) (k : WpO P is orc all l (s.put d (.agg ((cs.drop (i * c)).take c))) Q) : WpO P is orc all (⟨some d, .index xt x y, t, p, e, none⟩ :: l) s Q := by
  refine o_pure hd (fun w => rfl) (fun Pr φ S tm H hs => ?_) k
  have h1 := evalU_rel hs x
  rw [hx] at h1
  obtain ⟨m, g1, g2⟩ := agg_of h1
  have h2 := evalU_rel hs y
  rw [hi] at h2
  have h2 := int_of h2
  refine ⟨.agg (ofList ((m.drop (i * c)).take c)), fun E => ?_, .agg _ _ ((g2.drop (i * c)).take c)⟩
  show oIndex P xt (evalO tm x) (evalO tm y) H = _
  unfold oIndex
  rw [ht, g1, h2]
  show cond (Nat.ble (Nat.succ i) n) (pure1 H (partV P el (ofList m) (Nat.mul i (P.cellsOf el)))) .no = _
  rw [show Nat.ble (Nat.succ i) n = true by rw [Nat.ble_eq]; omega, hc]
  show pure1 H (partV P el (ofList m) (i * c)) = _
  rw [part_many hsh (by rw [g2.len]; exact hu)]; rfl
theorem o_callVR {all l : List Oper} {d : Option Nat} {g : FuncId} {xs : Array Operand} {ts : Array TypeId} {t : TypeId} {p : String} {e : Array Edge} {args A B : List U} {r : U} {Q : St → Prop} {x : Nat} (hd : okDst 1024 d = true) (hx : s.slot x = .fn g A B) (hr : RetP P is orc g args r)
    (hle : UW (.l (A ++ (evalUs s xs.toList ++ B))) (.l args)) (k : WpO P is orc all l (s.dst d (dg r)) Q) : WpO P is orc all (⟨d, .call ⟨.value (.tmp x), xs, ts⟩, t, p, e, none⟩ :: l) s Q := by
  refine o_op (R := fun u s1 => u = dg r ∧ s1 = s) hd ?_ fun u s1 h => by obtain ⟨rfl, rfl⟩ := h; exact k
  intro Pr φ S tm H hs
  have hv := evalU_rel hs (.tmp x)
  rw [show evalU s (.tmp x) = _ from hx] at hv
  generalize hq : evalO tm (.tmp x) = w at hv
  cases hv with
  | fn _ VA VB _ _ a1 a2 =>
    have hl := UW.vu (LU.append a1 (LU.append (evalUs_rel hs xs.toList) a2)) hle
    have hl0 : LU φ0 S (VA ++ (xs.toList.map (evalO tm) ++ VB)) args := LU_all hl fun v u hu hv => hr.dat u hu _ _ _ hv
    obtain ⟨n0, v, H', S', h1, h2, h3⟩ := hr.run S H _ hs.memOk hs.fzn hl0
    obtain ⟨g1, g2⟩ := hs.grow h2
    refine ⟨v, _, s, H', φ, S', ⟨n0, fun n hn => ?_⟩, g1, φ.le_refl, h2.le, g2, ?_, NewOk.none (ownId_dg _ _), rfl, rfl⟩
    · show invokeV (runEvW true P is orc n) (tm.get x) (evalL tm xs.toList) H = _
      rw [show tm.get x = _ from hq]
      show (runEvW true P is orc n).call g (appV (ofList VA) (appV (evalL tm xs.toList) (ofList VB))) H = _
      rw [evalL_of, appV_of, appV_of]; exact h1 n hn
    · exact VU.dg (h3.mono (ψ := φ) (fun a b h => by cases h) S'.le_refl)
end Vam
namespace Vam
set_option linter.unusedVariables false
set_option linter.unusedSimpArgs false
open Go
variable {Pr : Prt} {φ φ' ψ : BMap} {S S' R : SMap} {s s' : St} {tm tm' : TT} {H H' : CH} {P : Program} {is : FuncId → Bool} {orc : Known}
section ops
variable {all l : List Oper} {d : Nat} {x y : Operand} {t xt t1 t2 el : TypeId} {p : String} {e : Array Edge} {a off n c z : Nat} {cs es : List U} {Q : St → Prop} {kd : Kd}
theorem o_sliceB (hd : Nat.blt d 1024 = true) (ht : tyOf P xt = .array n el) (hc : P.cellsOf el = c) (h0 : Nat.blt 0 c = true) (hn : Nat.blt 0 n = true) (hx : evalU s x = .box a off)
    (k : WpO P is orc all l (s.put d (.sl a off n c)) Q) : WpO P is orc all (⟨some d, .slice xt x none none none, t, p, e, none⟩ :: l) s Q := by
  have h0 := blt_lt h0
  have hn := blt_lt hn
  refine o_pure hd (fun w => rfl) (fun Pr φ S tm H hs => ?_) k
  have g1 := evalU_rel hs x
  rw [hx] at g1
  obtain ⟨b, g2, g3⟩ := box_of g1
  refine ⟨.slice b (off + 0 * c) (n - 0) (capX (n - 0)) c, fun E => ?_, ?_⟩
  · show pure1 H (sliceV P xt (evalO tm x) none none none) = _
    unfold sliceV
    rw [ht, g3]
    show pure1 H (cond (isOver b) none (sliceArr (P.cellsOf el) n none none none b off)) = _
    rw [isOver_wf (hs.dom a b g2).1, hc]
    show pure1 H (sliceSl2 c b off n true 0 n) = _
    unfold sliceSl2
    rw [beq_ne (show n ≠ 0 by omega)]; rfl
  · rw [Nat.zero_mul, Nat.add_zero, Nat.sub_zero]
    refine .sl _ b _ _ (capX n) _ g2 ?_ h0
    show n ≤ (2 * n + 1) / 2
    omega
theorem o_copyB {ts : Array TypeId} (hd : Nat.blt d 1024 = true) (hts : ts.toList = [t1, t2]) (ht : tyOf P t1 = .slice el) (hc : P.cellsOf el = c) (hx : evalU s x = .sl a off n c) (hy : evalU s y = .lst kd z es) (hz : z = c ∨ z = 0) (hb : s.st[a]? = some (.box cs)) (hpos : 0 < es.length) (hle : es.length ≤ n)
    (hone : (flatU es).all oneU = true) {m : Nat} (hm : (flatU es).length = m) (hlen : off + m ≤ cs.length)
    (k : WpO P is orc all l ((s.wr a (cs.take off ++ (flatU es).map dg ++ cs.drop (off + m))).put d (.int .i64 (es.length : Int))) Q) :
    WpO P is orc all (⟨some d, .call ⟨.builtin .copy, #[x, y], ts⟩, t, p, e, none⟩ :: l) s Q := by
  refine o_op (R := fun u s1 => u = .int .i64 (es.length : Int) ∧ s1 = s.wr a (cs.take off ++ (flatU es).map dg ++ cs.drop (off + m))) hd ?_ fun u s1 h => by obtain ⟨rfl, rfl⟩ := h; exact k
  intro Pr φ S tm H hs
  have h1 := evalU_rel hs x
  rw [hx] at h1
  obtain ⟨b, cc, h2, h3, _, hc0⟩ := sl_of h1
  have hyr := evalU_rel hs y
  rw [hy] at hyr
  obtain ⟨vs, n1, hvs, n3⟩ := first_runK (fun b m h => (hs.mem b m h).2.2.2) hyr (c := c) hz
  obtain ⟨b', mm, ty, q1, q2, q3⟩ := hs.box a cs hb
  rw [h2] at q1; cases q1
  have hvn : vs.length = m := by rw [hvs.len, hm]
  have hml : off + vs.length ≤ mm.length := by rw [q3.len]; omega
  have hdl : ((flatU es).map dg).length = m := by simp [hm]
  have own0 : ∀ (o : Nat) (v : V) (w : U), ((flatU es).map dg)[o]? = some w → ownId v w = none := by
    intro o v w hw
    rw [List.getElem?_map] at hw
    cases hq : (flatU es)[o]? with
    | none => rw [hq] at hw; cases hw
    | some w' => rw [hq] at hw; cases hw; exact ownId_dg _ _
  have hrel : LU φ S (mm.take off ++ vs ++ mm.drop (off + m)) (cs.take off ++ (flatU es).map dg ++ cs.drop (off + m)) :=
    ((q3.take off).append hvs.dgs).append (q3.drop _)
  have gm := splice_get mm vs off hml
  have gc := splice_get cs ((flatU es).map dg) off (by rw [hdl]; exact hlen)
  rw [hdl] at gc; rw [hvn] at gm
  obtain ⟨H1, w1, w2, w3⟩ := hs.write hb h2 q2 hrel (off := off)
    (fun o v w r1 r2 hne => by
      rw [gm] at r1; rw [gc] at r2
      by_cases c1 : o < off
      · rw [if_pos c1] at r1 r2; exact .inl ⟨r1, r2⟩
      · rw [if_neg c1] at r1 r2
        by_cases c2 : o < off + m
        · rw [if_pos c2] at r2; exact .inr (own0 _ _ _ r2)
        · rw [if_neg c2] at r1 r2; exact .inl ⟨r1, r2⟩)
    (fun v w r1 r2 => by
      by_cases c2 : off < off + m
      · rw [gc, if_neg (by omega), if_pos c2] at r2
        exact NewOk.none (own0 _ _ _ r2)
      · exfalso
        have h5 : ∀ e ∈ es, 0 < (cellsU e).length := fun e he => by rw [n3 e he]; exact hc0
        cases es with
        | nil => simp at hpos
        | cons e0 es0 =>
          have := h5 e0 List.mem_cons_self
          have h6 : (flatU (e0 :: es0)).length = (cellsU e0).length + (flatU es0).length := by
            show (List.flatMap cellsU (e0 :: es0)).length = _
            rw [List.flatMap_cons, List.length_append]; rfl
          omega)
  refine ⟨.int .i64 (es.length : Int), _, _, H1, φ, S, ⟨0, fun n' hn' => ?_⟩, w2, φ.le_refl, S.le_refl, w3, .int _ _, NewOk.none rfl, rfl, rfl⟩
  show copyT P ts.toList H (evalO tm x) (evalO tm y) = _
  unfold copyT
  rw [hts]
  simp only [ht]
  rw [lenOf_lst hyr, h3]
  show cond (Nat.beq c (P.cellsOf el)) (cond (Nat.ble es.length n) (opt .no (copyOn H es.length b off) (firstCells H (P.cellsOf el) es.length (evalO tm y))) _) .no = _
  rw [hc, Nat.beq_refl, show Nat.ble es.length n = true by rw [Nat.ble_eq]; exact hle, n1]
  show copyOn H es.length b off (ofList vs) = _
  unfold copyOn
  cases vs with
  | nil =>
    exfalso
    have h5 : ∀ e ∈ es, 0 < (cellsU e).length := fun e he => by rw [n3 e he]; exact hc0
    cases es with
    | nil => simp at hpos
    | cons e0 es0 =>
      have := h5 e0 List.mem_cons_self
      have h6 : (flatU (e0 :: es0)).length = (cellsU e0).length + (flatU es0).length := by
        show (List.flatMap cellsU (e0 :: es0)).length = _
        rw [List.flatMap_cons, List.length_append]; rfl
      have h7 : m = 0 := by simpa using hvn.symm
      omega
  | cons v0 vs0 =>
    show opt R.no (fun H' => R.ok (.int .i64 (.ofNat es.length)) H') (writeCells H b off (ofList (v0 :: vs0))) = _
    rw [write_run q2 (vs := v0 :: vs0) (H' := H1) (allOne_of hvs hone) hml (by rw [hvn]; exact w1)]; rfl
end ops
end Vam
