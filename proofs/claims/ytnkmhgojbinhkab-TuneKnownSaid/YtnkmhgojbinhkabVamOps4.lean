/- The plain machine (VamOps4): part of a proof by a machine of plain values that is proved right. -/
import Derived.Test.YtnkmhgojbinhkabVamOps3
namespace Vam
set_option linter.unusedVariables false
set_option linter.unusedSimpArgs false
open Go
variable {P : Program} {φ : Phi} {H H' : CH} {w : World} {v : V}

theorem getObj_map {b : Id} {k : Loc} (h : Rel P φ H w) (hb : φ b = some k) {es : List Ent} {c : Nat} (hg : H.get b = some (.map es c)) :
    ∃ (rs : Array MapEntry) (c' : Nat), (getObj k.r).run P w = .ok (.map rs c') w ∧ w.heap[k.r]? = some (.map rs c') ∧ EntsR φ es rs.toList := by
  obtain ⟨x, hx, hbl⟩ := h.blk b k hb
  rw [hg] at hx; cases hx
  obtain ⟨rs, c', h1, h2⟩ := hbl
  exact ⟨rs, c', by simp [getObj, Sem.run, h1], h1, h2⟩

theorem EntsR.len {es : List Ent} {rs : List MapEntry} (h : EntsR φ es rs) : es.length = rs.length := by
  induction h with
  | nil => rfl
  | cons _ _ _ _ _ _ _ ih => simp [ih]
theorem entLen_eq (es : List Ent) : entLen es = es.length := by
  unfold entLen
  have key : ∀ (es : List Ent) (n : Nat), (List.rec (motive := fun _ => Nat → Nat) (fun n => n) (fun _ _ ih n => ih (Nat.succ n)) es : Nat → Nat) n = es.length + n := by
    intro es
    induction es with
    | nil => intro n; simp
    | cons e es ih => intro n; show (List.rec (motive := fun _ => Nat → Nat) (fun n => n) (fun _ _ ih n => ih (Nat.succ n)) es : Nat → Nat) (Nat.succ n) = _; rw [ih]; simp; omega
  simpa using key es 0

theorem onMapB_ok {α : Type} {f : List Ent → Nat → Option α} {b : Option Blk} {r : α} (h : onMapB none f b = some r) : ∃ es c, b = some (.map es c) ∧ f es c = some r := by
  cases b with
  | none => cases h
  | some x => cases x <;> first | exact ⟨_, _, rfl, h⟩ | cases h

theorem mapEs_rel (h : Rel P φ H w) {m : V} {mv : Value} (hm : VR φ m mv) {es : List Ent} (hr : mapEs H m = some es) :
    (mv = .map none ∧ es = []) ∨ ∃ (r : Nat) (rs : Array MapEntry) (c : Nat), mv = .map (some r) ∧ (getObj r).run P w = .ok (.map rs c) w ∧ EntsR φ es rs.toList := by
  rcases onMap_ok (no := none) hr (by simp) with ⟨b, rfl, h1⟩ | ⟨rfl, h1⟩
  · obtain ⟨es', c, h2, h3⟩ := onMapB_ok h1
    cases h3
    cases hm with
    | map _ k hk =>
      obtain ⟨rs, c', h4, _, h5⟩ := getObj_map h hk h2
      exact .inr ⟨k.r, rs, c', rfl, h4, h5⟩
  · cases h1; cases hm; exact .inl ⟨rfl, rfl⟩

theorem sim_len (h : Rel P φ H w) {t ty : TypeId} {cn : Array Bool} {x : V} {xv : Value} (hx : VR φ x xv) (hr : pure1 H (lenB P H t x) = .ok v H') :
    Sim P φ H w (builtin .len #[t] ty cn #[xv]) v H' := by
  obtain ⟨h1, rfl⟩ := pure1_ok hr
  clear hr
  have key : ∀ n : Nat, (Builtin.len_ #[t] ty #[xv]).run P w = .ok (goInt n) w → v = num n → Sim P φ H' w (builtin .len #[t] ty cn #[xv]) v H' := by
    rintro n hn rfl
    exact ⟨φ, w, _, .inl (by simp [builtin, hn, goInt]), h, .refl _ _ _, .int _ _⟩
  unfold lenB at h1
  cases ht : tyOf P t with
  | array n e =>
    rw [ht] at h1; cases h1
    exact key n (by simp [Builtin.len_, run_underlying (tyOf_array ht).1]) rfl
  | slice e =>
    rw [ht] at h1
    rcases onSlice_ok (no := none) h1 (by simp) with ⟨b, o, l, c, s, rfl, h2⟩ | ⟨rfl, h2⟩
    · cases h2; cases hx
      exact key l (by simp [Builtin.len_, run_underlying (tyOf_slice ht).1]) rfl
    · cases h2; cases hx
      exact key 0 (by simp [Builtin.len_, run_underlying (tyOf_slice ht).1]) rfl
  | map k e =>
    rw [ht] at h1
    obtain ⟨es, h2, h3⟩ := opt_ok (no := none) h1 (by simp)
    cases h3
    rcases mapEs_rel h hx h2 with ⟨rfl, rfl⟩ | ⟨r, rs, c, rfl, h4, h5⟩
    · exact key 0 (by simp [Builtin.len_, run_underlying (tyOf_map ht).1]) rfl
    · exact key rs.size (by simp [Builtin.len_, run_underlying (tyOf_map ht).1, h4]) (by rw [entLen_eq, h5.len]; simp)
  | string =>
    rw [ht] at h1
    obtain ⟨s, rfl, h2⟩ := onStr_ok (no := none) h1 (by simp)
    cases h2
    cases hx with
    | str s => exact key s.size (by simp [Builtin.len_, run_underlying (tyOf_string ht)]) (by rw [bytes_len])
  | _ => rw [ht] at h1; cases h1

theorem foldV_cons (f : V → V → Option V) (y l x : V) : foldV f (.cons y l) x = opt none (foldV f l) (f y x) := rfl
theorem foldV_nil (f : V → V → Option V) (x : V) : foldV f .nil x = some x := rfl

theorem fold_rel {f : V → V → Option V} {g : Value → Value → Sem Value}
    (hfg : ∀ {x y z : V} {xv yv : Value}, f y x = some z → VR φ x xv → VR φ y yv → ∃ zv, (g xv yv).run P w = .ok zv w ∧ VR φ z zv) :
    ∀ {l : V} {ys : List Value} {x r : V} {xv : Value}, LR φ l ys → VR φ x xv → foldV f l x = some r → ∃ rv, (ys.foldlM g xv).run P w = .ok rv w ∧ VR φ r rv := by
  intro l
  induction l with
  | nil => intro ys x r xv hl hx hr; rw [LR.inv_nil hl]; rw [foldV_nil] at hr; cases hr; exact ⟨xv, by simp, hx⟩
  | cons y l _ ih =>
    intro ys x r xv hl hx hr
    obtain ⟨yv, ys', rfl, h1, h2⟩ := LR.inv_cons hl
    rw [foldV_cons] at hr
    obtain ⟨z, h3, h4⟩ := opt_ok (no := none) hr (by simp)
    obtain ⟨zv, h5, h6⟩ := hfg h3 hx h1
    obtain ⟨rv, h7, h8⟩ := ih h2 h6 h4
    exact ⟨rv, by simp [List.foldlM_cons, h5, h7], h8⟩
  | _ => intro ys x r xv hl; cases hl

theorem sim_min (h : Rel P φ H w) {ts : Array TypeId} {ty : TypeId} {cn : Array Bool} {x l : V} {xs : List Value} (hx : LR φ (.cons x l) xs) (hr : pure1 H (foldV minV l x) = .ok v H') :
    Sim P φ H w (builtin .min ts ty cn xs.toArray) v H' := by
  obtain ⟨h1, rfl⟩ := pure1_ok hr
  obtain ⟨xv, xs', rfl, h2, h3⟩ := LR.inv_cons hx
  obtain ⟨rv, h4, h5⟩ := fold_rel (P := P) (w := w) (f := minV) (g := Builtin.min2) (fun {x y z xv yv} e ex ey => by
    obtain ⟨k, a, rfl, e1⟩ := onInt_ok (no := none) e (by simp)
    obtain ⟨k', b, rfl, e2⟩ := onInt_ok (no := none) e1 (by simp)
    cases e2; cases ex; cases ey
    refine ⟨.int k (if b < a then b else a), by simp [Builtin.min2], ?_⟩
    rw [ile_eq]
    by_cases hh : b < a
    · rw [if_pos hh, show decide (a ≤ b) = false by simp; omega]; exact .int _ _
    · rw [if_neg hh, show decide (a ≤ b) = true by simp; omega]; exact .int _ _) h3 h2 h1
  exact ⟨φ, w, rv, .inl (by simp [builtin, Builtin.min_, h4]), h, .refl _ _ _, h5⟩

theorem sim_max (h : Rel P φ H w) {ts : Array TypeId} {ty : TypeId} {cn : Array Bool} {x l : V} {xs : List Value} (hx : LR φ (.cons x l) xs) (hr : pure1 H (foldV maxV l x) = .ok v H') :
    Sim P φ H w (builtin .max ts ty cn xs.toArray) v H' := by
  obtain ⟨h1, rfl⟩ := pure1_ok hr
  obtain ⟨xv, xs', rfl, h2, h3⟩ := LR.inv_cons hx
  obtain ⟨rv, h4, h5⟩ := fold_rel (P := P) (w := w) (f := maxV) (g := Builtin.max2) (fun {x y z xv yv} e ex ey => by
    obtain ⟨k, a, rfl, e1⟩ := onInt_ok (no := none) e (by simp)
    obtain ⟨k', b, rfl, e2⟩ := onInt_ok (no := none) e1 (by simp)
    cases e2; cases ex; cases ey
    refine ⟨.int k (if b > a then b else a), by simp [Builtin.max2], ?_⟩
    rw [ile_eq]
    by_cases hh : b > a
    · rw [if_pos hh, show decide (b ≤ a) = false by simp; omega]; exact .int _ _
    · rw [if_neg hh, show decide (b ≤ a) = true by simp; omega]; exact .int _ _) h3 h2 h1
  exact ⟨φ, w, rv, .inl (by simp [builtin, Builtin.max_, h4]), h, .refl _ _ _, h5⟩

/-! ## Aggregates -/

inductive PartsR (φ : Phi) : List (Nat × V) → List (Nat × Value) → Prop where
  | nil : PartsR φ [] []
  | cons (i : Nat) (x : V) (v : Value) (ps : List (Nat × V)) (qs : List (Nat × Value)) : VR φ x v → PartsR φ ps qs → PartsR φ ((i, x) :: ps) ((i, v) :: qs)

theorem evalParts_cons (tm : TT) (p : Nat × Operand) (l : List (Nat × Operand)) : evalParts tm (p :: l) = (p.1, evalO tm p.2) :: evalParts tm l := rfl
theorem evalParts_rel {tm : TT} {a : Act} (h : TmR φ tm a.tmps) : ∀ {l : List (Nat × Operand)}, (l.all fun p => okO a.tmps.size p.2) = true → PartsR φ (evalParts tm l) (l.map fun p => (p.1, a.eval p.2)) := by
  intro l
  induction l with
  | nil => intro _; exact .nil
  | cons p l ih =>
    intro ho
    simp only [List.all_cons, Bool.and_eq_true] at ho
    rw [evalParts_cons]
    exact .cons _ _ _ _ _ (evalO_rel h ho.1) (ih ho.2)

theorem fillL_nil (pl : Nat → Option (Nat × Nat)) (c : V) : fillL pl [] c = some c := rfl
theorem fillL_cons (pl : Nat → Option (Nat × Nat)) (p : Nat × V) (ps : List (Nat × V)) (c : V) : fillL pl (p :: ps) c =
    opt none (fun os => cond (Nat.beq (lenV (cellsL p.2) 0) os.2) (opt none (fillL pl ps) (putV c os.1 (cellsL p.2))) none) (pl p.1) := rfl

theorem foldl_put (ys : List Value) : ∀ (cs : Array Value) (off j0 : Nat), (ys.zipIdx j0).foldl (fun (c : Array Value) (x : Value × Nat) => c.setIfInBounds (off + x.2) x.1) cs = putArr cs (off + j0) ys := by
  induction ys with
  | nil => intro cs off j0; rfl
  | cons y ys ih =>
    intro cs off j0
    simp only [List.zipIdx_cons, List.foldl_cons, putArr]
    rw [ih]; rfl

theorem putArr_list (ys : List Value) (cs : Array Value) (off : Nat) (h : off + ys.length ≤ cs.size) : (putArr cs off ys).toList = putL cs.toList off ys := by
  apply List.ext_getElem?
  intro i
  have := putArr_get ys cs off i h
  rw [Array.getElem?_toList, this]
  simp only [putL]
  by_cases h1 : i < off
  · rw [if_neg (by omega), List.append_assoc, List.getElem?_append_left (by simp; omega), List.getElem?_take, if_pos h1]; simp
  · by_cases h2 : i < off + ys.length
    · rw [if_pos (by omega), List.append_assoc, List.getElem?_append_right (by simp; omega), List.getElem?_append_left (by simp; omega)]
      congr 1; simp; omega
    · rw [if_neg (by omega), List.getElem?_append_right (by simp; omega), List.getElem?_drop]
      simp only [Array.getElem?_toList]
      congr 1; simp; omega

theorem fill_rel (pl : Nat → Option (Nat × Nat)) : ∀ {ps : List (Nat × V)} {qs : List (Nat × Value)} {c r : V} {cs : Array Value}, PartsR φ ps qs → LR φ c cs.toList →
    fillL pl ps c = some r → ∃ rs : Array Value, Instr.fill pl cs qs = some rs ∧ LR φ r rs.toList := by
  intro ps
  induction ps with
  | nil => intro qs c r cs hp hc hr; cases hp; rw [fillL_nil] at hr; cases hr; exact ⟨cs, by simp [Instr.fill], hc⟩
  | cons p ps ih =>
    intro qs c r cs hp hc hr
    cases hp with
    | cons i x v _ qs hx hp =>
      rw [fillL_cons] at hr
      obtain ⟨⟨off, size⟩, h1, h2⟩ := opt_ok (no := none) hr (by simp)
      obtain ⟨h3, h4⟩ := cond_ok h2 (by simp)
      obtain ⟨c', h5, h6⟩ := opt_ok (no := none) h4 (by simp)
      dsimp only at h1 h3 h5
      have hl := cells_rel hx
      obtain ⟨p1, p2, _⟩ := putV_rel hc hl h5
      have hsz : v.cells.size = size := by
        have := beq_eq h3; rw [lenV_eq, LR.len hl] at this; simpa using this
      have hfit : off + v.cells.size ≤ cs.size := by simpa using p1
      have e1 : v.cells.zipIdx.foldl (fun (c : Array Value) (x : Value × Nat) => c.setIfInBounds (off + x.2) x.1) cs = putArr cs off v.cells.toList := by
        rw [← Array.foldl_toList, Array.toList_zipIdx]
        exact foldl_put _ cs off 0
      obtain ⟨rs, h7, h8⟩ := ih (cs := putArr cs off v.cells.toList) hp (by rw [putArr_list _ _ _ (by simpa using hfit)]; exact p2) h6
      refine ⟨rs, ?_, h8⟩
      simp only [Instr.fill, h1]
      rw [if_neg (by simp [hsz]; omega)]
      rw [← h7]
      congr 1

theorem mapM_places {w : World} : ∀ (fs : List Field), (∀ f ∈ fs, sized P f.type = true) →
    (fs.mapM fun f => do Pure.pure (f.offset, ← Go.sizeOf f.type) : Sem (List (Nat × Nat))).run P w = .ok (fs.map fun f => (f.offset, P.cellsOf f.type)) w := by
  intro fs
  induction fs with
  | nil => intro _; rfl
  | cons f fs ih =>
    intro h
    have h1 := sizeOf_run (sized_iff (h f (by simp))).1 w
    have h2 := ih (fun g hg => h g (by simp [hg]))
    simp only [List.mapM_cons, Sem.run_bind, h1, Result.andThen_ok, Sem.run_pure, h2, List.map_cons]

theorem sim_build (h : Rel P φ H w) {t : TypeId} {ps : List (Nat × V)} {qs : List (Nat × Value)} (hp : PartsR φ ps qs) (hr : oBuild P t ps H = .ok v H') :
    Sim P φ H w (do pure (.value (← Instr.build t qs.toArray))) v H' := by
  obtain ⟨z, hz, h1⟩ := opt_ok hr R.ok_ne
  obtain ⟨pl, hpl, h2⟩ := opt_ok h1 R.ok_ne
  obtain ⟨l, hl, h3⟩ := opt_ok h2 R.ok_ne
  cases h3
  obtain ⟨zv, h4, h5⟩ := run_zero hz w
  obtain ⟨rs, h6, h7⟩ := fill_rel pl hp (h5 φ) hl
  refine Sim.pure h (x := .agg rs) ?_ (.agg _ _ h7)
  unfold placeOf at hpl
  cases ht : tyOf P t with
  | struct fs =>
    rw [ht] at hpl
    cases hpl
    obtain ⟨F, g1, g2, g3⟩ := tyOf_struct ht
    subst g2
    have g4 := mapM_places (P := P) (w := w) F.toList g3
    have g5 : (F.mapM fun f => do Pure.pure (f.offset, ← Go.sizeOf f.type) : Sem (Array (Nat × Nat))).run P w = .ok (F.map fun f => (f.offset, P.cellsOf f.type)) w := by
      rw [← Array.toArray_toList (xs := F), List.mapM_toArray, Sem.run_map, g4]
      simp only [Result.andThen_ok]
      rw [← Array.toList_map, Array.toArray_toList, Array.toArray_toList]
    have g6 : (fun i => (F.map fun f => (f.offset, P.cellsOf f.type))[i]?) = fun i => opt none (fun f => some (f.offset, P.cellsOf f.type)) (nthO F.toList i) := by
      funext i
      rw [nthO_eq]
      simp only [Array.getElem?_map, Array.getElem?_toList]
      cases F[i]? <;> rfl
    have g7 : (F.mapM fun f => Prod.mk f.offset <$> Go.sizeOf f.type : Sem (Array (Nat × Nat))).run P w = .ok (F.map fun f => (f.offset, P.cellsOf f.type)) w := g5
    have e : (Instr.build t qs.toArray).run P w = .ok (.agg rs) w := by
      rw [← g6] at h6
      simp only [Array.getElem?_map] at h6
      simp [Instr.build, h4, run_underlying g1, g7, h6]
    exact e
  | array n e =>
    rw [ht] at hpl
    cases hpl
    obtain ⟨g1, g2⟩ := tyOf_array ht
    have hs := sizeOf_run (sized_iff g2).1 w
    simp only [Instr.build, Sem.run_bind, h4, Result.andThen_ok, run_underlying g1, hs]
    simp [h6]
  | _ => rw [ht] at hpl; cases hpl
end Vam
