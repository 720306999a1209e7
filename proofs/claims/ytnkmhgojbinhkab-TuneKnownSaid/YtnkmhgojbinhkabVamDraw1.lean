/- The plain machine (VamDraw1): part of a proof by a machine of plain values that is proved right. -/
import Derived.Test.YtnkmhgojbinhkabVamTop
namespace Vam
set_option linter.unusedVariables false
set_option linter.unusedSimpArgs false
open Go
variable {P : Program} {φ : Phi} {H H' : CH} {w : World} {v : V} {E : Ev}

/-! ## That an operation comes to an end somewhere -/

def NoQ : Exit → Act → World → Prop := fun _ _ _ => False

theorem upon_exists {o : Oper} {a : Act} {next : Act → World → Prop} {r : Option Nat} {x : Result Next} (h : o.uponIn (wideAt r) 0 P a next NoQ x) : ∃ a' w', next a' w' := by
  cases x with
  | ok y w' =>
    cases y with
    | value v => exact ⟨_, _, h⟩
    | skip => exact ⟨_, _, h⟩
    | defer d => exact ⟨_, _, h⟩
    | enter f args =>
      obtain ⟨_, _, hc⟩ := h
      obtain ⟨e, w'', _, hr, _⟩ := hc [] (room_wide _)
      cases e with
      | returned v => exact ⟨_, _, hr⟩
      | panicked c => exact hr.elim
      | outgrown => obtain ⟨_, _, hf⟩ := (show LetsOut NoQ from hr); exact hf.elim
    | row row args =>
      obtain ⟨_, hc⟩ := h
      obtain ⟨v, w'', hr, _⟩ := hc default [] (room_wide _)
      exact ⟨_, _, hr⟩
    | round l f tmps x y =>
      obtain ⟨_, _, hc⟩ := h
      obtain ⟨e, w'', hr, _⟩ := hc default [] (room_wide _)
      cases e with
      | returned v => exact ⟨_, _, hr⟩
      | panicked c => exact hr.elim
      | outgrown => obtain ⟨_, _, hf⟩ := (show LetsOut NoQ from hr); exact hf.elim
    | _ => exact h.elim
  | halt x w' =>
    cases x <;> exact h.elim

theorem wpOp_exists {ops : Array Oper} {i : Nat} {a : Act} {K : Act → World → Prop} {r : Option Nat} (h : wpOpIn (wideAt r) 0 P ops NoQ i K a w) : ∃ a' w', K a' w' := by
  unfold wpOpIn at h
  split at h
  · exact ⟨_, _, h⟩
  · split at h
    · exact upon_exists h.2
    · exact ⟨_, _, h.2⟩

/-! ## What an operation looks at -/

theorem evalO_same {tm tm' : TT} {o : Operand} (h : ∀ t, o = .tmp t → tm.get t = tm'.get t) : evalO tm o = evalO tm' o := by
  cases o with
  | tmp t => exact h t rfl
  | _ => rfl

theorem mem_tmpsOf {o : Op} {t : Nat} : t ∈ tmpsOf o ↔ Operand.tmp t ∈ o.operands := by
  unfold tmpsOf
  rw [List.mem_filterMap]
  constructor
  · rintro ⟨x, hx, h⟩
    cases x <;> first | (cases h; simpa using hx) | cases h
  · intro h
    exact ⟨.tmp t, by simpa using h, rfl⟩

theorem evalL_same {tm tm' : TT} {l : List Operand} (h : ∀ t, Operand.tmp t ∈ l → tm.get t = tm'.get t) : evalL tm l = evalL tm' l := by
  induction l with
  | nil => rfl
  | cons o l ih =>
    show V.cons (evalO tm o) (evalL tm l) = V.cons (evalO tm' o) (evalL tm' l)
    rw [evalO_same (fun t ht => h t (by simp [ht])), ih (fun t ht => h t (by simp [ht]))]

theorem evalOpt_same {tm tm' : TT} {o : Option Operand} (h : ∀ t, Operand.tmp t ∈ o.toList → tm.get t = tm'.get t) : evalOpt tm o = evalOpt tm' o := by
  cases o with
  | none => rfl
  | some x =>
    show some (evalO tm x) = some (evalO tm' x)
    rw [evalO_same (fun t ht => h t (by simp [ht]))]

theorem evalParts_same {tm tm' : TT} {l : List (Nat × Operand)} (h : ∀ t, Operand.tmp t ∈ l.map (·.2) → tm.get t = tm'.get t) : evalParts tm l = evalParts tm' l := by
  induction l with
  | nil => rfl
  | cons p l ih =>
    show (p.1, evalO tm p.2) :: evalParts tm l = (p.1, evalO tm' p.2) :: evalParts tm' l
    rw [evalO_same (fun t ht => h t (by simp [ht])), ih (fun t ht => h t (by simp only [List.map_cons, List.mem_cons]; exact .inr ht))]

/-- AN OPERATION LOOKS AT ITS OPERANDS ALONE. -/
theorem evOp_same {tm tm' : TT} {o : Op} (h : ∀ t ∈ tmpsOf o, tm.get t = tm'.get t) : evOp P E tm H o = evOp P E tm' H o := by
  have hm : ∀ t, Operand.tmp t ∈ o.operands → tm.get t = tm'.get t := fun t ht => h t (mem_tmpsOf.2 ht)
  have hx : ∀ x : Operand, x ∈ o.operands → evalO tm x = evalO tm' x := fun x hx => evalO_same (fun t ht => hm t (ht ▸ hx))
  cases o with
  | move x | assign x => show R.ok (evalO tm x) H = R.ok (evalO tm' x) H; rw [hx x (by simp [Op.operands])]
  | pick c x y =>
    show oPick H (evalO tm c) (evalO tm x) (evalO tm y) = oPick H (evalO tm' c) (evalO tm' x) (evalO tm' y)
    rw [hx c (by simp [Op.operands]), hx x (by simp [Op.operands]), hx y (by simp [Op.operands])]
  | box e x => show newB H e (cellsL (evalO tm x)) = newB H e (cellsL (evalO tm' x)); rw [hx x (by simp [Op.operands])]
  | build t ps =>
    show oBuild P t (evalParts tm ps.toList) H = oBuild P t (evalParts tm' ps.toList) H
    rw [evalParts_same (fun t ht => hm t (by simpa [Op.operands] using ht))]
  | buildSlice t n ps =>
    show oBuildSlice P t n (evalParts tm ps.toList) H = oBuildSlice P t n (evalParts tm' ps.toList) H
    rw [evalParts_same (fun t ht => hm t (by simpa [Op.operands] using ht))]
  | insert t m k x | mapUpdate t m k x =>
    show skip1 (mapUpdateV P t H (evalO tm m) (evalO tm k) (evalO tm x)) = skip1 (mapUpdateV P t H (evalO tm' m) (evalO tm' k) (evalO tm' x))
    rw [hx m (by simp [Op.operands]), hx k (by simp [Op.operands]), hx x (by simp [Op.operands])]
  | load t x => show onPtr .no (oLoad P t H) (evalO tm x) = onPtr .no (oLoad P t H) (evalO tm' x); rw [hx x (by simp [Op.operands])]
  | store t x y =>
    show onPtr .no (oStore P t (evalO tm y) H) (evalO tm x) = onPtr .no (oStore P t (evalO tm' y) H) (evalO tm' x)
    rw [hx x (by simp [Op.operands]), hx y (by simp [Op.operands])]
  | nilCheck x => show oNilCheck (evalO tm x) H = oNilCheck (evalO tm' x) H; rw [hx x (by simp [Op.operands])]
  | binOp op t x y u =>
    show pure1 H (binV P t op (evalO tm x) (evalO tm y)) = pure1 H (binV P t op (evalO tm' x) (evalO tm' y))
    rw [hx x (by simp [Op.operands]), hx y (by simp [Op.operands])]
  | unOp op t x => show pure1 H (unV op (evalO tm x)) = pure1 H (unV op (evalO tm' x)); rw [hx x (by simp [Op.operands])]
  | convert s d x => show oConvert P s d (evalO tm x) H = oConvert P s d (evalO tm' x) H; rw [hx x (by simp [Op.operands])]
  | makeFunc fn xs ys =>
    cases fn with
    | func f =>
      show R.ok (.func f (evalL tm xs.toList) (evalL tm ys.toList)) H = R.ok (.func f (evalL tm' xs.toList) (evalL tm' ys.toList)) H
      rw [evalL_same (l := xs.toList) (fun t ht => hm t (by simp only [Op.operands, Array.mem_append]; exact .inl (by simpa using ht))),
        evalL_same (l := ys.toList) (fun t ht => hm t (by simp only [Op.operands, Array.mem_append]; exact .inr (by simpa using ht)))]
    | _ => rfl
  | makeMap t r =>
    show Ty.rec (motive := fun _ => R) (fun _ => .no) (fun _ _ => .no) (fun _ => .no) (fun _ _ => oMakeMap (evalOpt tm r) H) .no (fun _ => .no) .no .no .no .no (tyOf P t) = Ty.rec (motive := fun _ => R) (fun _ => .no) (fun _ _ => .no) (fun _ => .no) (fun _ _ => oMakeMap (evalOpt tm' r) H) .no (fun _ => .no) .no .no .no .no (tyOf P t)
    rw [evalOpt_same (fun t ht => hm t (by simpa [Op.operands] using ht))]
  | makeSlice t l c =>
    show oMakeSlice P t (evalO tm l) (evalO tm c) H = oMakeSlice P t (evalO tm' l) (evalO tm' c) H
    rw [hx l (by simp [Op.operands]), hx c (by simp [Op.operands])]
  | slice t x lo hi mx =>
    show pure1 H (sliceV P t (evalO tm x) (evalOpt tm lo) (evalOpt tm hi) (evalOpt tm mx)) = pure1 H (sliceV P t (evalO tm' x) (evalOpt tm' lo) (evalOpt tm' hi) (evalOpt tm' mx))
    rw [hx x (by simp [Op.operands]), evalOpt_same (o := lo) (fun t ht => hm t (by cases lo <;> simp_all [Op.operands])), evalOpt_same (o := hi) (fun t ht => hm t (by cases hi <;> simp_all [Op.operands])),
      evalOpt_same (o := mx) (fun t ht => hm t (by cases mx <;> simp_all [Op.operands]))]
  | fieldAddr t x f => show oFieldAddr (evalO tm x) H (fieldOf P t f) = oFieldAddr (evalO tm' x) H (fieldOf P t f); rw [hx x (by simp [Op.operands])]
  | field t x f => show oField P (evalO tm x) H (fieldOf P t f) = oField P (evalO tm' x) H (fieldOf P t f); rw [hx x (by simp [Op.operands])]
  | indexAddr t x ix =>
    show oIndexAddr P t (evalO tm x) (evalO tm ix) H = oIndexAddr P t (evalO tm' x) (evalO tm' ix) H
    rw [hx x (by simp [Op.operands]), hx ix (by simp [Op.operands])]
  | index t x ix =>
    show oIndex P t (evalO tm x) (evalO tm ix) H = oIndex P t (evalO tm' x) (evalO tm' ix) H
    rw [hx x (by simp [Op.operands]), hx ix (by simp [Op.operands])]
  | lookup t x ix ok =>
    show pure1 H (lookupV P H t (evalO tm x) (evalO tm ix) ok) = pure1 H (lookupV P H t (evalO tm' x) (evalO tm' ix) ok)
    rw [hx x (by simp [Op.operands]), hx ix (by simp [Op.operands])]
  | extract t i => show oExtract H i (evalO tm t) = oExtract H i (evalO tm' t); rw [hx t (by simp [Op.operands])]
  | call c =>
    obtain ⟨callee, args, ts⟩ := c
    show evCallee P E tm args.toList ts.toList H callee = evCallee P E tm' args.toList ts.toList H callee
    have ha : evalL tm args.toList = evalL tm' args.toList := evalL_same (fun t ht => hm t (by simp only [Op.operands, Call.operands, Array.mem_append]; exact .inr (by simpa using ht)))
    cases callee with
    | value f =>
      cases f with
      | tmp t =>
        show invokeV E (tm.get t) (evalL tm args.toList) H = invokeV E (tm'.get t) (evalL tm' args.toList) H
        rw [ha, hm t (by simp [Op.operands, Call.operands])]
      | func g =>
        show E.call g (evalL tm args.toList) H = E.call g (evalL tm' args.toList) H
        rw [ha]
      | _ => rfl
    | invoke _ _ => rfl
    | builtin b =>
      show oBuiltin P b ts.toList (evalL tm args.toList) H = oBuiltin P b ts.toList (evalL tm' args.toList) H
      rw [ha]
  | _ => rfl

/-! ## Slots -/

theorem RowV.set_comm (x y : V) (d e : D) (h : d ≠ e) (t : RowV) : RowV.set d x (RowV.set e y t) = RowV.set e y (RowV.set d x t) := by
  cases t <;> cases d <;> cases e <;> first | rfl | exact absurd rfl h
theorem RowV.set_set (x y : V) (d : D) (t : RowV) : RowV.set d x (RowV.set d y t) = RowV.set d x t := by
  cases t <;> cases d <;> rfl
theorem RowW.set_comm (x y : RowV) (d e : D) (h : d ≠ e) (t : RowW) : RowW.set d x (RowW.set e y t) = RowW.set e y (RowW.set d x t) := by
  cases t <;> cases d <;> cases e <;> first | rfl | exact absurd rfl h
theorem RowW.set_set (x y : RowV) (d : D) (t : RowW) : RowW.set d x (RowW.set d y t) = RowW.set d x t := by
  cases t <;> cases d <;> rfl
theorem Tr1.set_comm (x y : (Option Blk)) (d e : D) (h : d ≠ e) (t : Tr1) : Tr1.set d x (Tr1.set e y t) = Tr1.set e y (Tr1.set d x t) := by
  cases t <;> cases d <;> cases e <;> first | rfl | exact absurd rfl h
theorem Tr1.set_set (x y : (Option Blk)) (d : D) (t : Tr1) : Tr1.set d x (Tr1.set d y t) = Tr1.set d x t := by
  cases t <;> cases d <;> rfl
theorem Tr2.set_comm (x y : Tr1) (d e : D) (h : d ≠ e) (t : Tr2) : Tr2.set d x (Tr2.set e y t) = Tr2.set e y (Tr2.set d x t) := by
  cases t <;> cases d <;> cases e <;> first | rfl | exact absurd rfl h
theorem Tr2.set_set (x y : Tr1) (d : D) (t : Tr2) : Tr2.set d x (Tr2.set d y t) = Tr2.set d x t := by
  cases t <;> cases d <;> rfl
theorem Tr3.set_comm (x y : Tr2) (d e : D) (h : d ≠ e) (t : Tr3) : Tr3.set d x (Tr3.set e y t) = Tr3.set e y (Tr3.set d x t) := by
  cases t <;> cases d <;> cases e <;> first | rfl | exact absurd rfl h
theorem Tr3.set_set (x y : Tr2) (d : D) (t : Tr3) : Tr3.set d x (Tr3.set d y t) = Tr3.set d x t := by
  cases t <;> cases d <;> rfl
theorem Tr4.set_comm (x y : Tr3) (d e : D) (h : d ≠ e) (t : Tr4) : Tr4.set d x (Tr4.set e y t) = Tr4.set e y (Tr4.set d x t) := by
  cases t <;> cases d <;> cases e <;> first | rfl | exact absurd rfl h
theorem Tr4.set_set (x y : Tr3) (d : D) (t : Tr4) : Tr4.set d x (Tr4.set d y t) = Tr4.set d x t := by
  cases t <;> cases d <;> rfl
theorem Tr.set_comm (x y : Tr4) (d e : D) (h : d ≠ e) (t : Tr) : Tr.set d x (Tr.set e y t) = Tr.set e y (Tr.set d x t) := by
  cases t <;> cases d <;> cases e <;> first | rfl | exact absurd rfl h
theorem Tr.set_set (x y : Tr4) (d : D) (t : Tr) : Tr.set d x (Tr.set d y t) = Tr.set d x t := by
  cases t <;> cases d <;> rfl

theorem RR.set_comm (x y : V) (t : RowW) (a b c d : D) (h : ¬ (a = c ∧ b = d)) : Vam.RR.set x (Vam.RR.set y t c d) a b = Vam.RR.set y (Vam.RR.set x t a b) c d := by
  unfold Vam.RR.set
  by_cases ha : a = c
  · subst ha
    rw [RowW.get_set, if_pos rfl, RowW.get_set, if_pos rfl, RowW.set_set, RowW.set_set, RowV.set_comm]
    rintro rfl; exact h ⟨rfl, rfl⟩
  · rw [RowW.get_set, if_neg ha, RowW.get_set, if_neg (Ne.symm ha), RowW.set_comm _ _ _ _ ha]

theorem TT.put_put (q : Q4) (r s : RowW) (t : TT) : TT.put q r (TT.put q s t) = TT.put q r t := by
  cases t; cases q <;> rfl
theorem TT.put_comm (q q' : Q4) (h : q ≠ q') (r s : RowW) (t : TT) : TT.put q r (TT.put q' s t) = TT.put q' s (TT.put q r t) := by
  cases t; cases q <;> cases q' <;> first | rfl | exact absurd rfl h

theorem TT.set_comm (x y : V) (t : TT) {i j : Nat} (hi : i < 1024) (hj : j < 1024) (h : i ≠ j) : TT.set x (TT.set y t j) i = TT.set y (TT.set x t i) j := by
  simp only [TT.set_eq, TT.part_put]
  by_cases hq : Q4.of (i / 256) = Q4.of (j / 256)
  · rw [hq]
    simp only [if_true, TT.put_put]
    rw [RR.set_comm]
    rintro hd
    exact h (slot_inj hi hj ⟨hq, hd⟩)
  · rw [if_neg (Ne.symm hq), if_neg hq, TT.put_comm _ _ hq]

/-- two slots that are written, in either order -/
theorem setT_comm (x y : V) (t : TT) {d e : Option Nat} (hd : ∀ i, d = some i → i < 1024) (he : ∀ i, e = some i → i < 1024) (h : ∀ i, d = some i → e ≠ some i) : setT (setT t e y) d x = setT (setT t d x) e y := by
  cases d with
  | none => rfl
  | some i =>
    cases e with
    | none => rfl
    | some j => exact TT.set_comm x y t (hd i rfl) (he j rfl) (fun hij => h i rfl (by rw [hij]))

theorem setT_get (x : V) (t : TT) {d : Option Nat} {j : Nat} (hd : ∀ i, d = some i → i < 1024) (hj : j < 1024) (h : d ≠ some j) : (setT t d x).get j = t.get j := by
  cases d with
  | none => rfl
  | some i =>
    show (TT.set x t i).get j = _
    rw [TT.get_set _ _ _ _ (hd i rfl) hj, if_neg (fun hij => h (by rw [hij]))]
end Vam
