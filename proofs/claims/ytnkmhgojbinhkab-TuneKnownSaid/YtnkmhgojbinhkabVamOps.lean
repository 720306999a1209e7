/- The plain machine (VamOps): part of a proof by a machine of plain values that is proved right. -/
import Derived.Test.YtnkmhgojbinhkabVamMem
import Derived.ChangeKeysEq
namespace Vam
set_option linter.unusedVariables false
set_option linter.unusedSimpArgs false
open Go
variable {P : Program}

/-! ## Constants and operands -/

theorem ofVal1_rel {φ : Phi} {v : Value} {x : V} (h : ofVal1 v = some x) : VR φ x v := by
  cases v with
  | bool b => cases h; exact .bool b
  | int k n => cases h; exact .int k n
  | string s => cases h; exact .str s
  | pointer a => cases a with
    | none => cases h; exact .nilp
    | some a => cases h
  | slice a n c =>
    cases a with
    | some a => cases h
    | none =>
      cases n with
      | succ n => cases h
      | zero => cases c with
        | succ c => cases h
        | zero => cases h; exact .nils
  | map r => cases r with
    | none => cases h; exact .nilm
    | some a => cases h
  | nilFunc => cases h; exact .nilf
  | _ => cases h

theorem ofList_cons (x : V) (l : List V) : ofList (x :: l) = .cons x (ofList l) := rfl
theorem ofVals_rel {φ : Phi} : ∀ {vs : List Value} {l : List V}, ofVals vs = some l → LR φ (ofList l) vs := by
  intro vs
  induction vs with
  | nil => intro l h; cases h; exact .nil
  | cons v vs ih =>
    intro l h
    simp only [ofVals] at h
    cases h1 : ofVal1 v with
    | none => rw [h1] at h; cases h
    | some x =>
      cases h2 : ofVals vs with
      | none => rw [h1, h2] at h; cases h
      | some m =>
        rw [h1, h2] at h
        cases h
        exact .cons _ _ _ _ (ofVal1_rel h1) (ih h2)

theorem ofValO_rel {φ : Phi} {v : Value} {x : V} (h : ofValO v = some x) : VR φ x v := by
  unfold ofValO at h
  split at h
  · rename_i cs
    cases h1 : ofVals cs.toList with
    | none => rw [h1] at h; cases h
    | some l => rw [h1] at h; cases h; exact .agg _ _ (ofVals_rel h1)
  · exact ofVal1_rel h

theorem ofVal_rel {φ : Phi} {v : Value} (h : (ofValO v).isSome = true) : VR φ (ofVal v) v := by
  obtain ⟨x, hx⟩ := Option.isSome_iff_exists.1 h
  unfold ofVal
  rw [hx]
  exact ofValO_rel hx

theorem blt_lt {a b : Nat} (h : Nat.blt a b = true) : a < b := by simpa [Nat.blt_eq] using h

theorem evalO_rel {φ : Phi} {tm : TT} {a : Act} (h : TmR φ tm a.tmps) {o : Operand} (ho : okO a.tmps.size o = true) : VR φ (evalO tm o) (a.eval o) := by
  cases o with
  | tmp t => exact h.2 t (blt_lt ho)
  | const v => exact ofVal_rel ho
  | global g => cases ho
  | func f => exact .func f .nil .nil #[] #[] .nil .nil

theorem evalL_cons (tm : TT) (o : Operand) (l : List Operand) : evalL tm (o :: l) = .cons (evalO tm o) (evalL tm l) := rfl
theorem evalL_rel {φ : Phi} {tm : TT} {a : Act} (h : TmR φ tm a.tmps) : ∀ {l : List Operand}, (l.all (okO a.tmps.size)) = true → LR φ (evalL tm l) (l.map a.eval) := by
  intro l
  induction l with
  | nil => intro _; exact .nil
  | cons o l ih =>
    intro ho
    simp only [List.all_cons, Bool.and_eq_true] at ho
    exact .cons _ _ _ _ (evalO_rel h ho.1) (ih ho.2)

theorem cells_rel {φ : Phi} {x : V} {v : Value} (h : VR φ x v) : LR φ (cellsL x) v.cells.toList := by
  cases h with
  | agg l cs h => exact h
  | bool b => exact .cons _ _ _ _ (.bool b) .nil
  | int k n => exact .cons _ _ _ _ (.int k n) .nil
  | str s => exact .cons _ _ _ _ (.str s) .nil
  | ptr b off k hk => exact .cons _ _ _ _ (.ptr b off k hk) .nil
  | nilp => exact .cons _ _ _ _ .nilp .nil
  | slice b off len cc sz cap k hk hc => exact .cons _ _ _ _ (.slice b off len cc sz cap k hk hc) .nil
  | nils => exact .cons _ _ _ _ .nils .nil
  | map b k hk => exact .cons _ _ _ _ (.map b k hk) .nil
  | nilm => exact .cons _ _ _ _ .nilm .nil
  | func f a b A B ha hb => exact .cons _ _ _ _ (.func f a b A B ha hb) .nil
  | yield b k hk => exact .cons _ _ _ _ (.yield b k hk) .nil
  | nilf => exact .cons _ _ _ _ .nilf .nil
  | tup l cs h => exact .cons _ _ _ _ (.tup l cs h) .nil

/-! ## Inversions -/

theorem onBool_ok {α : Type} {no r : α} {f : Bool → α} {v : V} (h : onBool no f v = r) (hr : r ≠ no) : ∃ b, v = .bool b ∧ f b = r := by
  cases v <;> first | exact ⟨_, rfl, h⟩ | exact absurd h.symm hr
theorem onInt_ok {α : Type} {no r : α} {f : IntKind → Int → α} {v : V} (h : onInt no f v = r) (hr : r ≠ no) : ∃ k n, v = .int k n ∧ f k n = r := by
  cases v <;> first | exact ⟨_, _, rfl, h⟩ | exact absurd h.symm hr
theorem onPtr_ok {α : Type} {no r : α} {f : Id → Nat → α} {v : V} (h : onPtr no f v = r) (hr : r ≠ no) : ∃ b o, v = .ptr b o ∧ f b o = r := by
  cases v <;> first | exact ⟨_, _, rfl, h⟩ | exact absurd h.symm hr
theorem onSlice_ok {α : Type} {no r z : α} {f : Id → Nat → Nat → Nat → Nat → α} {v : V} (h : onSlice no f z v = r) (hr : r ≠ no) :
    (∃ b o l c s, v = .slice b o l c s ∧ f b o l c s = r) ∨ (v = .nils ∧ z = r) := by
  cases v <;> first | exact .inl ⟨_, _, _, _, _, rfl, h⟩ | exact .inr ⟨rfl, h⟩ | exact absurd h.symm hr
theorem onMap_ok {α : Type} {no r z : α} {f : Id → α} {v : V} (h : onMap no f z v = r) (hr : r ≠ no) : (∃ b, v = .map b ∧ f b = r) ∨ (v = .nilm ∧ z = r) := by
  cases v <;> first | exact .inl ⟨_, rfl, h⟩ | exact .inr ⟨rfl, h⟩ | exact absurd h.symm hr
theorem onFunc_ok {α : Type} {no r : α} {f : Nat → V → V → α} {y : Id → α} {v : V} (h : onFunc no f y v = r) (hr : r ≠ no) :
    (∃ g a b, v = .func g a b ∧ f g a b = r) ∨ (∃ l, v = .yield l ∧ y l = r) := by
  cases v <;> first | exact .inl ⟨_, _, _, rfl, h⟩ | exact .inr ⟨_, rfl, h⟩ | exact absurd h.symm hr
theorem onAgg_ok {α : Type} {no r : α} {f : V → α} {v : V} (h : onAgg no f v = r) (hr : r ≠ no) : ∃ l, v = .agg l ∧ f l = r := by
  cases v <;> first | exact ⟨_, rfl, h⟩ | exact absurd h.symm hr
theorem onTup_ok {α : Type} {no r : α} {f : V → α} {v : V} (h : onTup no f v = r) (hr : r ≠ no) : ∃ l, v = .tup l ∧ f l = r := by
  cases v <;> first | exact ⟨_, rfl, h⟩ | exact absurd h.symm hr
theorem onList_ok {α : Type} {no r z : α} {f : V → V → α} {v : V} (h : onList no z f v = r) (hr : r ≠ no) : (v = .nil ∧ z = r) ∨ ∃ x l, v = .cons x l ∧ f x l = r := by
  cases v <;> first | exact .inl ⟨rfl, h⟩ | exact .inr ⟨_, _, rfl, h⟩ | exact absurd h.symm hr
theorem onStr_ok {α : Type} {no r : α} {f : List Nat → α} {v : V} (h : onStr no f v = r) (hr : r ≠ no) : ∃ s, v = .str s ∧ f s = r := by
  cases v <;> first | exact ⟨_, rfl, h⟩ | exact absurd h.symm hr
theorem opt_ok {α β : Type} {no r : β} {f : α → β} {o : Option α} (h : opt no f o = r) (hr : r ≠ no) : ∃ x, o = some x ∧ f x = r := by
  cases o <;> first | exact ⟨_, rfl, h⟩ | exact absurd h.symm hr
theorem cond_ok {α : Type} {no r t : α} {b : Bool} (h : cond b t no = r) (hr : r ≠ no) : b = true ∧ t = r := by
  cases b <;> first | exact ⟨rfl, h⟩ | exact absurd h.symm hr
theorem cond_ok' {α : Type} {no r t : α} {b : Bool} (h : cond b no t = r) (hr : r ≠ no) : b = false ∧ t = r := by
  cases b <;> first | exact ⟨rfl, h⟩ | exact absurd h.symm hr
theorem pure1_ok {H H' : CH} {o : Option V} {v : V} (h : pure1 H o = .ok v H') : o = some v ∧ H' = H := by
  cases o with
  | none => cases h
  | some x => cases h; exact ⟨rfl, rfl⟩
theorem natOf_ok {α : Type} {no r : α} {f : Nat → α} {v : V} (h : natOf no f v = r) (hr : r ≠ no) : ∃ k n, v = .int k (.ofNat n) ∧ f n = r := by
  obtain ⟨k, n, rfl, h1⟩ := onInt_ok h hr
  cases n with
  | ofNat n => exact ⟨k, n, rfl, h1⟩
  | negSucc n => exact absurd h1.symm hr
theorem beq_eq {a b : Nat} (h : Nat.beq a b = true) : a = b := Nat.eq_of_beq_eq_true h

theorem R.ok_ne {v : V} {H : CH} : R.ok v H ≠ R.no := by intro h; cases h

/-! ## What an operation without a call does -/

/-- the operation's run, related to what the plain machine gives -/
def Sim (P : Program) (φ : Phi) (H : CH) (w : World) (s : Sem Next) (v : V) (H' : CH) : Prop :=
  ∃ φ' w' x, (s.run P w = .ok (.value x) w' ∨ (s.run P w = .ok .skip w' ∧ x = Go.undef)) ∧ Rel P φ' H' w' ∧ Ext φ H w φ' H' w' ∧ VR φ' v x

theorem Sim.pure {φ : Phi} {H : CH} {w : World} {s : Sem Value} {v : V} {x : Value} (h : Rel P φ H w) (hs : s.run P w = .ok x w) (hx : VR φ v x) :
    Sim P φ H w (do pure (.value (← s))) v H :=
  ⟨φ, w, x, .inl (by simp [hs]), h, .refl _ _ _, hx⟩

theorem run_zero {t : TypeId} {z : V} (h : zeroL P t = some z) (w : World) : ∃ zv, (zeroValue t).run P w = .ok zv w ∧ ∀ φ : Phi, LR φ z zv.cells.toList := by
  unfold zeroL at h
  split at h
  · rename_i i hi
    split at h
    · rename_i zv hz
      split at h
      · rename_i x hx
        cases h
        exact ⟨zv, by simp [zeroValue, run_typeInfo w hi, hz], fun φ => cells_rel (ofValO_rel hx)⟩
      · cases h
    · cases h
  · cases h

theorem newB_sim {φ : Phi} {H H' : CH} {w : World} (h : Rel P φ H w) {e : TypeId} {cells v : V} {cs : Array Value} (hc : ∀ ψ : Phi, φ.le ψ → LR ψ cells cs.toList)
    (hr : newB H e cells = .ok v H') : ∃ φ', Rel P φ' H' { w with heap := w.heap.push (.cells cs e) } ∧ Ext φ H w φ' H' { w with heap := w.heap.push (.cells cs e) } ∧
      VR φ' v (.pointer (some ⟨w.heap.size, 0, none⟩)) := by
  obtain ⟨H₁, h1, h2, h3, h4, h5⟩ := alloc_eq hr R.ok_ne h.nok
  cases h1
  have hnone := h.none_at_n h2
  have hle := Phi.le_with (⟨w.heap.size, 0, cs.size⟩ : Loc) hnone
  obtain ⟨r1, r2⟩ := h.alloc (m := cs.size) (o := .cells cs e) h2 h3 h4 h5 (by
    refine .inr ⟨⟨cs, e, rfl, by simp, ?_, cs.toList, hc _ hle, fun i v hv => by simpa using hv⟩, by simp⟩
    rw [(hc _ hle).len]; simp)
  exact ⟨_, r1, r2, .ptr _ 0 _ (Phi.with_self _ _ _)⟩

theorem run_newVar (w : World) (t : TypeId) (v : Value) : (newVar t v).run P w = .ok ⟨w.heap.size, 0, none⟩ { w with heap := w.heap.push (.cells v.cells t) } := rfl

section ops
variable {φ : Phi} {H H' : CH} {w : World} {tm : TT} {a : Act} {v : V}

theorem sim_alloc (h : Rel P φ H w) {e : TypeId} (hr : oAlloc H e (zeroL P e) = .ok v H') : Sim P φ H w (do pure (.value (← Instr.alloc e true (.tuple #[])))) v H' := by
  obtain ⟨z, hz, h1⟩ := opt_ok hr R.ok_ne
  obtain ⟨zv, h2, h3⟩ := run_zero hz w
  obtain ⟨φ', r1, r2, r3⟩ := newB_sim h (cs := zv.cells) (fun ψ _ => h3 ψ) h1
  exact ⟨φ', _, _, .inl (by simp [Instr.alloc, h2, run_newVar]), r1, r2, r3⟩

theorem sim_box (h : Rel P φ H w) {e : TypeId} {x : V} {xv : Value} (hx : VR φ x xv) (hr : newB H e (cellsL x) = .ok v H') :
    Sim P φ H w (do pure (.value (← Instr.box e xv))) v H' := by
  obtain ⟨φ', r1, r2, r3⟩ := newB_sim h (cs := xv.cells) (fun ψ hle => cells_rel (hx.mono hle)) hr
  exact ⟨φ', _, _, .inl (by simp [Instr.box, run_newVar]), r1, r2, r3⟩

theorem sim_pick (h : Rel P φ H w) {c x y : V} {cv xv yv : Value} (hc : VR φ c cv) (hx : VR φ x xv) (hy : VR φ y yv) (hr : oPick H c x y = .ok v H') :
    Sim P φ H w (do pure (.value (if ← asBool cv then xv else yv))) v H' := by
  obtain ⟨b, rfl, h1⟩ := onBool_ok hr R.ok_ne
  cases hc
  cases h1
  refine ⟨φ, w, if b then xv else yv, .inl (by simp [asBool]), h, .refl _ _ _, ?_⟩
  cases b
  · exact hy
  · exact hx

theorem sim_extract (h : Rel P φ H w) {t : V} {tv : Value} {i : Nat} (ht : VR φ t tv) (hr : oExtract H i t = .ok v H') : Sim P φ H w (do pure (.value (← Instr.extract tv i))) v H' := by
  obtain ⟨l, rfl, h1⟩ := onTup_ok hr R.ok_ne
  obtain ⟨h2, rfl⟩ := pure1_ok h1
  cases ht with
  | tup _ cs hl =>
    obtain ⟨x, h3, h4⟩ := LR.nth hl h2
    refine Sim.pure h ?_ h4
    have : cs[i]? = some x := by simpa using h3
    simp [Instr.extract, this]

theorem shOf_one {t : TypeId} (h : shOf P t = .one) : (∃ i, P.info? t = some i) ∧ P.cellsOf t = 1 ∧ ∀ w : World, (isAgg t).run P w = .ok false w := by
  unfold shOf at h
  cases hi : P.info? t with
  | none => simp [hi] at h
  | some i =>
    cases hu : P.underlying t with
    | none => simp [hi, hu] at h
    | some d =>
      rw [hi, hu] at h
      cases d <;> simp at h <;> refine ⟨⟨i, rfl⟩, by simp [Program.cellsOf, hi, h], fun w => by simp [isAgg, run_underlying hu]⟩
theorem shOf_many {t : TypeId} {n : Nat} (h : shOf P t = .many n) : (∃ i, P.info? t = some i) ∧ P.cellsOf t = n ∧ ∀ w : World, (isAgg t).run P w = .ok true w := by
  unfold shOf at h
  cases hi : P.info? t with
  | none => simp [hi] at h
  | some i =>
    cases hu : P.underlying t with
    | none => simp [hi, hu] at h
    | some d =>
      rw [hi, hu] at h
      cases d with
      | struct fs => simp at h; exact ⟨⟨i, rfl⟩, by simp [Program.cellsOf, hi, h], fun w => by simp [isAgg, run_underlying hu]⟩
      | array m e => simp at h; exact ⟨⟨i, rfl⟩, by simp [Program.cellsOf, hi, h], fun w => by simp [isAgg, run_underlying hu]⟩
      | _ => (exfalso; dsimp only at h; split at h <;> cases h)

theorem readCells_rel (h : Rel P φ H w) {b : Id} {k : Loc} (hb : φ b = some k) {off n : Nat} {l : V} (hr : readCells H b off n = some l) :
    ∃ vs : List Value, vs.length = n ∧ LR φ l vs ∧ ∀ j x, vs[j]? = some x → w.cell? ⟨k.r, k.o + off + j, none⟩ = some x := by
  obtain ⟨cs, e, st, sh, arr, el, fr, h1, h2, h3, h4, vs, h5, h6⟩ := h.cells hb hr
  obtain ⟨h7, h8, h9⟩ := LR.take n (h5.drop off) h1
  refine ⟨(vs.drop off).take n, ?_, h8, ?_⟩
  · rw [List.length_take]; omega
  · intro j x hx
    rw [cell?_eq h2]
    have hj : j < n := by
      have := (List.getElem?_eq_some_iff.1 hx).1
      simp at this; omega
    rw [List.getElem?_take, if_pos hj, List.getElem?_drop] at hx
    rw [Nat.add_assoc]
    exact h6 _ _ hx

theorem read1_rel (h : Rel P φ H w) {b : Id} {k : Loc} (hb : φ b = some k) {off : Nat} {x : V} (hr : read1 H b off = some x) :
    ∃ v, VR φ x v ∧ w.cell? ⟨k.r, k.o + off, none⟩ = some v := by
  obtain ⟨cs, e, st, sh, arr, el, fr, h1, h2, h3, h4, vs, h5, h6⟩ := h.cells hb hr
  obtain ⟨v, h7, h8⟩ := h5.nth h1
  exact ⟨v, h8, by rw [cell?_eq h2]; exact h6 _ _ h7⟩

theorem addr_add (r o j : Nat) : Addr.add ⟨r, o, none⟩ j = ⟨r, o + j, none⟩ := by
  unfold Addr.add
  split
  · rename_i h; subst h; rfl
  · rfl

theorem sizeOf_run {t : TypeId} (h : ∃ i, P.info? t = some i) (w : World) : (Go.sizeOf t).run P w = Result.ok (P.cellsOf t) w := by
  obtain ⟨i, hi⟩ := h
  exact run_sizeOf w hi

theorem loadV_rel (h : Rel P φ H w) {t : TypeId} {b : Id} {k : Loc} (hb : φ b = some k) {off : Nat} {x : V} (hr : loadV P t H b off = some x) :
    ∃ v, (loadVar t ⟨k.r, k.o + off, none⟩).run P w = .ok v w ∧ VR φ x v := by
  unfold loadV at hr
  cases hs : shOf P t with
  | bad => rw [hs] at hr; cases hr
  | one =>
    rw [hs] at hr
    obtain ⟨v, h1, h2⟩ := read1_rel h hb hr
    obtain ⟨_, _, h3⟩ := shOf_one hs
    exact ⟨v, by simp [loadVar, h3 w, h2], h1⟩
  | many n =>
    rw [hs] at hr
    obtain ⟨l, h0, h1⟩ := opt_ok (no := none) hr (by simp)
    cases h1
    obtain ⟨hi, hn, h3⟩ := shOf_many hs
    obtain ⟨vs, h4, h5, h6⟩ := readCells_rel h hb h0
    refine ⟨.agg vs.toArray, ?_, .agg _ _ (by simpa using h5)⟩
    have := run_loadCellsFrom (P := P) (w := w) ⟨k.r, k.o + off, none⟩ n 0 #[] vs h4 (fun j v hj => by
      rw [addr_add]
      simpa using h6 j v hj)
    simp [loadVar, h3 w, sizeOf_run hi w, hn, loadCells, this]

theorem sim_load (h : Rel P φ H w) {t : TypeId} {x : V} {xv : Value} (hx : VR φ x xv) (hr : onPtr .no (oLoad P t H) x = .ok v H') :
    Sim P φ H w (do pure (.value (← Instr.loadAt t xv))) v H' := by
  obtain ⟨b, o, rfl, h1⟩ := onPtr_ok hr R.ok_ne
  obtain ⟨h2, rfl⟩ := pure1_ok h1
  cases hx with
  | ptr _ _ k hk =>
    obtain ⟨u, h3, h4⟩ := loadV_rel h hk h2
    exact Sim.pure h (by simp [Instr.loadAt, Instr.sureAddr, h3]) h4
end ops
end Vam
