/- The plain machine (VamMap): part of a proof by a machine of plain values that is proved right. -/
import Derived.Test.YtnkmhgojbinhkabVamOps5
namespace Vam
set_option linter.unusedVariables false
set_option linter.unusedSimpArgs false
open Go
variable {P : Program} {φ : Phi} {H H' : CH} {w : World} {v : V}

/-- a block that holds no cells -/
def IsObj : Blk → Prop
  | .map _ _ => True
  | .loop _ _ _ _ _ _ _ _ => True
  | .dfr _ => True
  | _ => False

theorem setObj_run {r : Nat} {o o' : Obj} (h : w.heap[r]? = some o) (hn : ∀ a b c, o ≠ .cells a b c) : (setObj r o').run P w = .ok () { w with heap := w.heap.setIfInBounds r o' } := by
  simp only [setObj, Sem.run, h]

theorem isObj_plain {y : Blk} (iy : IsObj y) {k : Loc} {o : Option Obj} (hy : BlkR P φ y k o) : ∃ o', o = some o' ∧ PlainObj o' := by
  cases y with
  | map es c => obtain ⟨rs, c', h, _⟩ := hy; exact ⟨_, h, trivial⟩
  | loop s pe fn tm ps x y d => obtain ⟨_, _, _, _, h, _⟩ := hy; exact ⟨_, h, trivial⟩
  | dfr t => exact ⟨_, hy, trivial⟩
  | _ => exact iy.elim

/-- ANOTHER OBJECT IN A BLOCK THAT HOLDS NO CELLS. -/
theorem Rel.setObj (h : Rel P φ H w) {b : Id} {k : Loc} (hb : φ b = some k) {x y : Blk} {o : Obj} (hx : H.get b = some x) (ix : IsObj x) (iy : IsObj y)
    (hs : H.set b y = some H') (hy : BlkR P φ y k (some o)) :
    Rel P φ H' { w with heap := w.heap.setIfInBounds k.r o } ∧ Ext φ H w φ H' { w with heap := w.heap.setIfInBounds k.r o } := by
  obtain ⟨hbw, hbn, hbr⟩ := h.wf b k hb
  obtain ⟨s1, s2, s3, s4⟩ := CH.set_some hs hbw
  have wx : Wr x := by cases x <;> first | trivial | exact ix.elim
  have other : ∀ c l z, φ c = some l → c ≠ b → l.r = k.r → H.get c = some z → Dead z := by
    intro c l z hc hne hlr hz
    rcases h.sep b c k l x z hb hc (Ne.symm hne) hlr.symm hx hz with hd | hd | ⟨hd, _⟩ | ⟨_, _, _, _, _, _, _, _, hd, _⟩ | ⟨_, _, _, _, _, _, hd, _⟩
    · cases x <;> first | exact ix.elim | exact hd.elim
    · exact hd
    · exact absurd wx hd
    · subst hd; exact ix.elim
    · subst hd; exact ix.elim
  constructor
  · refine ⟨?_, ?_, ?_, ?_⟩
    · rw [s1]; exact h.nok
    · intro c l hc
      obtain ⟨h1, h2, h3⟩ := h.wf c l hc
      exact ⟨h1, by rw [s1]; exact h2, by simpa using h3⟩
    · intro c l hc
      obtain ⟨h1, h2, h3⟩ := h.wf c l hc
      by_cases ec : c = b
      · subst ec
        rw [hb] at hc; cases hc
        refine ⟨y, by rw [s4 c h1, if_pos rfl], ?_⟩
        show BlkR P φ y k ((w.heap.setIfInBounds k.r o)[k.r]?)
        rw [Array.getElem?_setIfInBounds, if_pos rfl, if_pos h3]; exact hy
      · obtain ⟨z, h4, h5⟩ := h.blk c l hc
        refine ⟨z, by rw [s4 c h1, if_neg ec]; exact h4, ?_⟩
        by_cases er : l.r = k.r
        · have := other c l z hc ec er h4
          cases z with
          | cells cs e st sh => exact .inl this
          | _ => exact this.elim
        · show BlkR P φ z l ((w.heap.setIfInBounds k.r o)[l.r]?)
          rw [Array.getElem?_setIfInBounds_ne (by omega)]; exact h5
    · intro c d l m p q hc hd hne hlr hp hq
      obtain ⟨hcw, _, _⟩ := h.wf c l hc
      obtain ⟨hdw, _, _⟩ := h.wf d m hd
      rw [s4 c hcw] at hp
      rw [s4 d hdw] at hq
      by_cases ec : c = b
      · subst ec
        rw [hb] at hc; cases hc
        rw [if_neg (Ne.symm hne)] at hq
        exact .inr (.inl (other d m q hd (Ne.symm hne) hlr.symm hq))
      · rw [if_neg ec] at hp
        by_cases ed : d = b
        · subst ed
          rw [hb] at hd; cases hd
          exact .inl (other c l p hc hne hlr hp)
        · rw [if_neg ed] at hq
          exact h.sep c d l m p q hc hd hne hlr hp hq
  · have hwr : WrAt H b := ⟨s3, x, hx, wx⟩
    refine ⟨Phi.le_refl φ, s2, ?_, ?_, ?_, ?_, ?_, ?_, by simp, rfl, rfl, rfl, ?_⟩
    · intro c l h1 h2; rw [h2] at h1; cases h1
    · intro c hc; rw [s1]; exact hc
    · intro c l h1 h2; rw [h2] at h1; cases h1
    · intro r _ hall
      exact Array.getElem?_setIfInBounds_ne (fun e => hall b k hb e hwr)
    · rintro c hcb hcw hn ⟨h1, z, h2, h3⟩
      by_cases ec : c = b
      · subst ec; exact hn hwr
      · rw [s4 c hcw, if_neg ec] at h2
        exact hn ⟨by rw [← s2]; exact h1, z, h2, h3⟩
    · intro c hcb hcw hf
      rw [s4 c hcw, if_neg]
      rintro rfl; omega
    · obtain ⟨z, h1, h2⟩ := h.blk b k hb
      rw [hx] at h1; cases h1
      obtain ⟨o₀, h3, h4⟩ := isObj_plain ix h2
      obtain ⟨o₁, h5, h6⟩ := isObj_plain iy hy
      cases h5
      exact frozen_set w h3 h4 h6

/-! ## Keys -/

noncomputable def keyN (P : Program) (d : Nat) : TypeId → V → Bool := Nat.rec (motive := fun _ => TypeId → V → Bool) (fun _ _ => false) (fun _ ih => keyStep P ih) d
theorem keyT_eq : keyT P = keyN P 10 := rfl
theorem keyFields_cons (ih : TypeId → V → Bool) (xs : V) (f : Field) (fs : List Field) : keyFields P ih xs (f :: fs) = (match f.name == "_" with
    | true => keyFields P ih xs fs
    | false => opt false (fun x => cond (ih f.type x) (keyFields P ih xs fs) false) (partV P f.type xs f.offset)) := rfl
theorem keyElems_succ (ih : TypeId → V → Bool) (e : TypeId) (xs : V) (n i : Nat) : keyElems P ih e xs (n + 1) i =
    opt false (fun x => cond (ih e x) (keyElems P ih e xs n (i + 1)) false) (partV P e xs (i * P.cellsOf e)) := rfl

theorem keyN_rel (empty : Bool) : ∀ (d : Nat) {t : TypeId} {x : V} {xv : Value}, keyN P d t x = true → VR φ x xv → ∀ (D : Nat), d ≤ D → ∀ w : World, (Instr.checkKey empty D t xv).run P w = .ok () w := by
  intro d
  induction d with
  | zero => intro t x xv h; cases h
  | succ d ih =>
    intro t x xv h hx D hD w
    obtain ⟨D, rfl⟩ : ∃ D', D = D' + 1 := ⟨D - 1, by omega⟩
    change keyStep P (keyN P d) t x = true at h
    unfold keyStep at h
    cases ht : tyOf P t with
    | struct fs =>
      rw [ht] at h
      obtain ⟨xs, rfl, h2⟩ := onAgg_ok (no := false) h (by simp)
      obtain ⟨F, g1, g2, g3⟩ := tyOf_struct ht
      cases hx with
      | agg _ cs hl =>
        simp only [Instr.checkKey, Sem.run_bind, run_underlying g1, Result.andThen_ok]
        rw [← Array.forIn_toList, g2]
        clear ht h g1 g2 g3
        induction fs with
        | nil => simp
        | cons f fs ihf =>
          rw [keyFields_cons] at h2
          cases hn : f.name == "_" with
          | true =>
            rw [hn] at h2
            have : f.name = "_" := by simpa using hn
            simp only [List.forIn_cons, this, ne_eq, not_true_eq_false, if_false, Sem.run_bind, Sem.run_pure, Result.andThen_ok]
            simpa using ihf h2
          | false =>
            rw [hn] at h2
            have hne : f.name ≠ "_" := by simpa using hn
            obtain ⟨a, k1, h3⟩ := opt_ok (no := false) h2 (by simp)
            obtain ⟨h4, h5⟩ := cond_ok h3 (by simp)
            obtain ⟨av, p1, p2⟩ := partV_rel hl k1 w
            have e := ih h4 p2 D (by omega) w
            simp only [Array.toArray_toList] at p1
            simp only [List.forIn_cons, hne, ne_eq, not_false_eq_true, if_true, Sem.run_bind, p1, e, Result.andThen_ok, Sem.run_pure]
            simpa using ihf h5
    | array n e =>
      rw [ht] at h
      obtain ⟨xs, rfl, h2⟩ := onAgg_ok (no := false) h (by simp)
      obtain ⟨g1, g2⟩ := tyOf_array ht
      have hs := sizeOf_run (sized_iff g2).1 w
      cases hx with
      | agg _ cs hl =>
        simp only [Instr.checkKey, Sem.run_bind, run_underlying g1, Result.andThen_ok]
        simp only [Std.Legacy.Range.forIn_eq_forIn_range', Std.Legacy.Range.size, Nat.sub_zero, Nat.add_one_sub_one, Nat.div_one]
        clear ht h g1 g2
        generalize 0 = j at h2 ⊢
        induction n generalizing j with
        | zero => simp
        | succ n ihn =>
          rw [keyElems_succ] at h2
          obtain ⟨a, k1, h3⟩ := opt_ok (no := false) h2 (by simp)
          obtain ⟨h4, h5⟩ := cond_ok h3 (by simp)
          obtain ⟨av, p1, p2⟩ := partV_rel hl k1 w
          have e := ih h4 p2 D (by omega) w
          simp only [Array.toArray_toList] at p1
          simp only [List.range'_succ, List.forIn_cons, Sem.run_bind, hs, p1, e, Result.andThen_ok, Sem.run_pure]
          simpa using ihn (j + 1) h5
    | string =>
      cases hx <;> simp [Instr.checkKey, run_underlying (tyOf_string ht)]
    | int k =>
      cases hx <;> simp [Instr.checkKey, run_underlying (tyOf_int ht)]
    | bool =>
      cases hx <;> simp [Instr.checkKey, run_underlying (tyOf_bool ht)]
    | _ => rw [ht] at h; cases h

/-! ## Looking for a key -/

theorem findK_nil (kt : TypeId) (k : V) (i : Nat) : findK P kt k [] i = some none := rfl
theorem findK_cons (kt : TypeId) (k : V) (e : Ent) (es : List Ent) (i : Nat) : findK P kt k (e :: es) i =
    opt none (fun b => cond b (some (some (i, e.key, e.val))) (findK P kt k es (i + 1))) (eqT P kt k e.key) := rfl

/-- what was found, and where -/
def FoundR (φ : Phi) (es : List Ent) (rs : List MapEntry) (i₀ : Nat) (r : Option (Nat × V × V)) (o : Option (Nat × Value)) : Prop :=
  match r, o with
  | none, none => True
  | some (i, key, val), some (j, u) => i = j ∧ i₀ ≤ i ∧ ∃ e m, es[i - i₀]? = some e ∧ rs[i - i₀]? = some m ∧ e.key = key ∧ e.val = val ∧ m.val = u ∧ VR φ key m.key ∧ VR φ val u
  | _, _ => False

theorem findAsking_rel {kt : TypeId} {k : V} {kv : Value} (hk : VR φ k kv) (w : World) : ∀ {es : List Ent} {rs : List MapEntry} {i : Nat} {r : Option (Nat × V × V)}, EntsR φ es rs →
    findK P kt k es i = some r → ∃ o, (Instr.findAsking kt kv rs i).run P w = .ok o w ∧ FoundR φ es rs i r o := by
  intro es
  induction es with
  | nil => intro rs i r hE h; cases hE; rw [findK_nil] at h; cases h; exact ⟨none, by simp [Instr.findAsking], trivial⟩
  | cons e es ih =>
    intro rs i r hE h
    cases hE with
    | cons _ m _ rs h1 h2 hE =>
      rw [findK_cons] at h
      obtain ⟨b, h3, h4⟩ := opt_ok (no := none) h (by simp)
      have h5 := eqT_rel h3 hk h1 w
      cases b with
      | true =>
        cases h4
        exact ⟨some (i, m.val), by simp [Instr.findAsking, h5], rfl, Nat.le_refl _, e, m, by simp, by simp, rfl, rfl, rfl, h1, h2⟩
      | false =>
        obtain ⟨o, h6, h7⟩ := ih hE h4
        refine ⟨o, by simp [Instr.findAsking, h5, h6], ?_⟩
        cases r with
        | none => cases o <;> first | trivial | exact h7.elim
        | some r =>
          obtain ⟨j, key, val⟩ := r
          cases o with
          | none => exact h7.elim
          | some o =>
            obtain ⟨j', u⟩ := o
            obtain ⟨q1, q2, e', m', q3, q4, q5⟩ := h7
            refine ⟨q1, by omega, e', m', ?_, ?_, q5⟩
            · rw [show j - i = (j - (i + 1)) + 1 by omega]; simpa using q3
            · rw [show j - i = (j - (i + 1)) + 1 by omega]; simpa using q4

theorem sameNow_rel {kt : TypeId} {d : TypeDesc} (hd : P.underlying kt = some d) {x y : V} {xv yv : Value} (hx : VR φ x xv) (hy : VR φ y yv) {r b : Bool} (h : eqT P kt x y = some r)
    (hs : Instr.sameNow d xv yv = some b) (w : World) : r = b := by
  have h1 := eqT_rel h hx hy w
  unfold Instr.sameNow at hs
  split at hs
  · split at hs
    · cases hs
      rename_i k' k a k2 b2 hk
      subst hk
      have h2 : (Op.equal kt (.int k a) (.int k b2)).run P w = .ok (a == b2) w := run_equalIn_int w 9999 kt k k' a b2 hd
      rw [h2] at h1; cases h1; rfl
    · cases hs
  · cases hs
    rename_i a b2
    have h2 : (Op.equal kt (.string a) (.string b2)).run P w = .ok (a.toList == b2.toList) w := run_equalIn_string w 9999 kt a b2 hd
    rw [h2] at h1; cases h1; rw [beq_toListBytes]
  · cases hs
    rename_i a b2
    have h2 : (Op.equal kt (.bool a) (.bool b2)).run P w = .ok (a == b2) w := run_equalIn_bool' w 9999 kt a b2 hd
    rw [h2] at h1; cases h1; rfl
  · cases hs

theorem findNow_rel {kt : TypeId} {d : TypeDesc} (hd : P.underlying kt = some d) {k : V} {kv : Value} (hk : VR φ k kv) (w : World) : ∀ {es : List Ent} {rs : List MapEntry} {i : Nat}
    {r : Option (Nat × V × V)} {o : Option (Nat × Value)}, EntsR φ es rs → findK P kt k es i = some r → Instr.findNow d kv rs i = some o → FoundR φ es rs i r o := by
  intro es
  induction es with
  | nil => intro rs i r o hE h hf; cases hE; rw [findK_nil] at h; cases h; cases hf; trivial
  | cons e es ih =>
    intro rs i r o hE h hf
    cases hE with
    | cons _ m _ rs h1 h2 hE =>
      rw [findK_cons] at h
      obtain ⟨b, h3, h4⟩ := opt_ok (no := none) h (by simp)
      simp only [Instr.findNow] at hf
      split at hf
      · rename_i hs
        have := sameNow_rel hd hk h1 h3 hs w
        subst this
        cases h4; cases hf
        exact ⟨rfl, Nat.le_refl _, e, m, by simp, by simp, rfl, rfl, rfl, h1, h2⟩
      · rename_i hs
        have := sameNow_rel hd hk h1 h3 hs w
        subst this
        have h7 := ih hE h4 hf
        cases r with
        | none => cases o <;> first | trivial | exact h7.elim
        | some r =>
          obtain ⟨j, key, val⟩ := r
          cases o with
          | none => exact h7.elim
          | some o =>
            obtain ⟨j', u⟩ := o
            obtain ⟨q1, q2, e', m', q3, q4, q5⟩ := h7
            refine ⟨q1, by omega, e', m', ?_, ?_, q5⟩
            · rw [show j - i = (j - (i + 1)) + 1 by omega]; simpa using q3
            · rw [show j - i = (j - (i + 1)) + 1 by omega]; simpa using q4
      · cases hf

theorem findKey_rel {kt : TypeId} (hk0 : sized P kt = true) {k : V} {kv : Value} (hk : VR φ k kv) (w : World) {es : List Ent} {rs : List MapEntry} {r : Option (Nat × V × V)} (hE : EntsR φ es rs)
    (h : findK P kt k es 0 = some r) : ∃ o, (Instr.findKey kt kv rs).run P w = .ok o w ∧ FoundR φ es rs 0 r o := by
  obtain ⟨d, hd⟩ := (sized_iff hk0).2
  cases hf : Instr.findNow d kv rs 0 with
  | some o => exact ⟨o, by simp [Instr.findKey, run_underlying hd, hf], findNow_rel hd hk w hE h hf⟩
  | none =>
    obtain ⟨o, h1, h2⟩ := findAsking_rel hk w hE h
    exact ⟨o, by simp [Instr.findKey, run_underlying hd, hf, h1], h2⟩

theorem zeroV_rel {t : TypeId} {z : V} (h : zeroV P t = some z) (w : World) : ∃ zv, (zeroValue t).run P w = .ok zv w ∧ ∀ φ : Phi, VR φ z zv := by
  unfold zeroV at h
  split at h
  · rename_i i hi
    split at h
    · rename_i zv hz
      exact ⟨zv, by simp [zeroValue, run_typeInfo w hi, hz], fun φ => ofValO_rel h⟩
    · cases h
  · cases h

theorem sim_lookup (h : Rel P φ H w) {t : TypeId} {m k : V} {mv kv : Value} {ok : Bool} (hm : VR φ m mv) (hk : VR φ k kv) (hr0 : pure1 H (lookupV P H t m k ok) = .ok v H') :
    Sim P φ H w (do pure (.value (← Instr.lookup t mv kv ok))) v H' := by
  obtain ⟨hr, rfl⟩ := pure1_ok hr0
  clear hr0
  unfold lookupV at hr
  cases ht : tyOf P t with
  | map kt et =>
    rw [ht] at hr
    obtain ⟨g1, g2, g3⟩ := tyOf_map ht
    obtain ⟨h1, h2⟩ := cond_ok hr (by simp)
    obtain ⟨es, h3, h4⟩ := opt_ok (no := none) h2 (by simp)
    obtain ⟨r, h5, h6⟩ := opt_ok (no := none) h4 (by simp)
    -- what the map holds
    obtain ⟨rs, hE, hno, hyes⟩ : ∃ rs : Array MapEntry, EntsR φ es rs.toList ∧
        (∀ zv, (Instr.checkKey rs.isEmpty 10000 kt kv).run P w = .ok () w → (Instr.findKey kt kv rs.toList).run P w = .ok none w → (zeroValue et).run P w = .ok zv w →
          (Instr.lookup t mv kv ok).run P w = .ok (if ok then .tuple #[zv, .bool false] else zv) w) ∧
        (∀ j u, (Instr.checkKey rs.isEmpty 10000 kt kv).run P w = .ok () w → (Instr.findKey kt kv rs.toList).run P w = .ok (some (j, u)) w →
          (Instr.lookup t mv kv ok).run P w = .ok (if ok then .tuple #[u, .bool true] else u) w) := by
      rcases mapEs_rel h hm h3 with ⟨rfl, rfl⟩ | ⟨r, rs, c, rfl, h7, h8⟩
      · refine ⟨#[], .nil, fun zv a1 a2 a3 => ?_, fun j u a1 a2 => ?_⟩
        · simp only [Instr.lookup, Sem.run_bind, run_underlying g1, Result.andThen_ok, Sem.run_pure, a1, a2, a3]
        · simp only [Instr.lookup, Sem.run_bind, run_underlying g1, Result.andThen_ok, Sem.run_pure, a1, a2]
      · refine ⟨rs, h8, fun zv a1 a2 a3 => ?_, fun j u a1 a2 => ?_⟩
        · simp only [Instr.lookup, Sem.run_bind, run_underlying g1, Result.andThen_ok, Sem.run_pure, h7, a1, a2, a3]
        · simp only [Instr.lookup, Sem.run_bind, run_underlying g1, Result.andThen_ok, Sem.run_pure, h7, a1, a2]
    have hck := keyN_rel (P := P) rs.isEmpty 10 (show keyN P 10 kt k = true from h1) hk 10000 (by omega) w
    obtain ⟨o, h7, h8⟩ := findKey_rel g2 hk w hE h5
    have key : ∀ (u : Value) (is : Bool) (uu : V), VR φ uu u → v = found ok uu is → (Instr.lookup t mv kv ok).run P w = .ok (if ok then .tuple #[u, .bool is] else u) w →
        Sim P φ H' w (do pure (.value (← Instr.lookup t mv kv ok))) v H' := by
      rintro u is uu hu rfl hrun
      refine Sim.pure h hrun ?_
      cases ok with
      | true => exact .tup _ _ (.cons _ _ _ _ hu (.cons _ _ _ _ (.bool is) .nil))
      | false => exact hu
    cases r with
    | none =>
      cases o with
      | some _ => exact h8.elim
      | none =>
        obtain ⟨z, h9, h10⟩ := opt_ok (no := none) (show opt none (fun z => some (found ok z false)) (zeroV P et) = some v from h6) (by simp)
        cases h10
        obtain ⟨zv, z1, z2⟩ := zeroV_rel h9 w
        exact key zv false z (z2 φ) rfl (hno zv hck h7 z1)
    | some r =>
      obtain ⟨i, key', val'⟩ := r
      cases o with
      | none => exact h8.elim
      | some o =>
        obtain ⟨j, u⟩ := o
        obtain ⟨rfl, _, e, m', q3, q4, q5, q6, q7, q8, q9⟩ := h8
        cases (show some (found ok val' true) = some v from h6)
        exact key u true val' q9 rfl (hyes i u hck h7)
  | _ => rw [ht] at hr; cases hr

/-! ## A map's entry set -/

theorem plainEq_same {x y : V} {a b : Value} (h : plainEq x y = some true) (ha : VR φ x a) (hb : VR φ y b) (n : Nat) : Instr.sameBits n a b = true := by
  cases x with
  | bool p =>
    obtain ⟨q, rfl, h1⟩ := onBool_ok (no := none) h (by simp)
    cases ha; cases hb; cases n <;> cases p <;> cases q <;> first | rfl | cases h1
  | int k p =>
    obtain ⟨k', q, rfl, h1⟩ := onInt_ok (no := none) h (by simp)
    obtain ⟨h2, h3⟩ := cond_ok h1 (by simp)
    cases kEq_true h2
    have h4 : ieq p q = true := by simpa using h3
    rw [ieq_eq] at h4
    cases ha; cases hb; cases n <;> simpa [Instr.sameBits] using h4
  | str p =>
    obtain ⟨q, rfl, h1⟩ := onStr_ok (no := none) h (by simp)
    have h2 : natsEq p q = true := by simpa using h1
    cases ha; cases hb
    rw [natsEq_eq, bytes_inj, ← beq_toListBytes] at h2
    cases n <;> simpa [Instr.sameBits] using h2
  | _ => cases h

theorem plainEqL_same {x : V} {as : List Value} (ha : LR φ x as) : ∀ {y : V} {bs : List Value}, LR φ y bs → plainEqL x y = true → ∀ n : Nat, as.length = bs.length ∧ (as.zip bs).all (fun (x, y) => Instr.sameBits n x y) = true := by
  induction as generalizing x with
  | nil =>
    intro y bs hb h n
    cases ha
    rcases onList_ok (no := false) (show onList false true (fun _ _ => false) y = true from h) (by simp) with ⟨rfl, _⟩ | ⟨_, _, rfl, h1⟩
    · cases hb; exact ⟨rfl, rfl⟩
    · cases h1
  | cons a as ih =>
    intro y bs hb h n
    cases ha with
    | cons x l _ _ h1 h2 =>
      rcases onList_ok (no := false) (show onList false false (fun z m => opt false (fun b => cond b (plainEqL l m) false) (plainEq x z)) y = true from h) (by simp) with ⟨_, h3⟩ | ⟨z, m, rfl, h3⟩
      · cases h3
      · obtain ⟨b, h4, h5⟩ := opt_ok (no := false) h3 (by simp)
        obtain ⟨rfl, h6⟩ := cond_ok h5 (by simp)
        cases hb with
        | cons _ _ _ _ h7 h8 =>
          obtain ⟨g1, g2⟩ := ih h2 h8 h6 n
          refine ⟨by simp [g1], ?_⟩
          simp [plainEq_same h4 h1 h7 n]
          simpa using g2

theorem sameV_same {x y : V} {a b : Value} (h : sameV x y = true) (ha : VR φ x a) (hb : VR φ y b) (n : Nat) : Instr.sameBits (n + 1) a b = true := by
  unfold sameV at h
  cases hp : plainEq x y with
  | some c => rw [hp] at h; cases (show c = true from h); exact plainEq_same hp ha hb _
  | none =>
    rw [hp] at h
    obtain ⟨l, rfl, h1⟩ := onAgg_ok (no := false) (show onAgg false (fun a => onAgg false (fun b => plainEqL a b) y) x = true from h) (by simp)
    obtain ⟨m, rfl, h2⟩ := onAgg_ok (no := false) h1 (by simp)
    cases ha with
    | agg _ cs hc =>
      cases hb with
      | agg _ ds hd =>
        obtain ⟨g1, g2⟩ := plainEqL_same hc hd h2 n
        simp only [Instr.sameBits, Bool.and_eq_true, beq_iff_eq]
        exact ⟨by simpa using g1, g2⟩

theorem EntsR.push {es : List Ent} {rs : List MapEntry} (h : EntsR φ es rs) {k v : V} {c : Nat} {e : MapEntry} (hk : VR φ k e.key) (hv : VR φ v e.val) : EntsR φ (es ++ [⟨k, v, c⟩]) (rs ++ [e]) := by
  induction h with
  | nil => exact .cons _ _ _ _ hk hv .nil
  | cons a b as bs h1 h2 _ ih => exact .cons _ _ _ _ h1 h2 ih

theorem setEnt_zero (k v : V) (e : Ent) (es : List Ent) : setEnt k v (e :: es) 0 = ⟨k, v, e.born⟩ :: es := rfl
theorem setEnt_succ (k v : V) (e : Ent) (es : List Ent) (n : Nat) : setEnt k v (e :: es) (n + 1) = e :: setEnt k v es n := rfl

theorem EntsR.modify {es : List Ent} {rs : List MapEntry} (h : EntsR φ es rs) {k v : V} {kv vv : Value} (hk : VR φ k kv) (hv : VR φ v vv) : ∀ i : Nat,
    EntsR φ (setEnt k v es i) (rs.modify i fun e => { e with key := kv, val := vv }) := by
  induction h with
  | nil => intro i; cases i <;> exact .nil
  | cons a b as bs h1 h2 h3 ih =>
    intro i
    cases i with
    | zero => rw [setEnt_zero, List.modify_zero_cons]; exact .cons _ _ _ _ hk hv h3
    | succ i => rw [setEnt_succ, List.modify_succ_cons]; exact .cons _ _ _ _ h1 h2 (ih i)

theorem sim_mapUpdate (h : Rel P φ H w) {t : TypeId} {m k x : V} {mv kv xv : Value} (hm : VR φ m mv) (hk : VR φ k kv) (hx : VR φ x xv) (hr0 : skip1 (mapUpdateV P t H m k x) = .ok v H') :
    Sim P φ H w (do Instr.mapUpdate t mv kv xv; Pure.pure Next.skip) v H' := by
  obtain ⟨hr, rfl⟩ := skip1_ok hr0
  unfold mapUpdateV at hr
  cases ht : tyOf P t with
  | map kt et =>
    rw [ht] at hr
    obtain ⟨g1, g2, g3⟩ := tyOf_map ht
    obtain ⟨h1, h2⟩ := cond_ok hr (by simp)
    rcases onMap_ok (no := none) h2 (by simp) with ⟨b, rfl, h3⟩ | ⟨_, h3⟩
    · obtain ⟨es, c, h4, h5⟩ := onMapB_ok h3
      cases hm with
      | map _ l hl =>
        obtain ⟨rs, c', h6, h6', h7⟩ := getObj_map h hl h4
        obtain ⟨r, h8, h9⟩ := opt_ok (no := none) h5 (by simp)
        obtain ⟨o, h10, h11⟩ := findKey_rel g2 hk w h7 h8
        have hck := keyN_rel (P := P) false 10 (show keyN P 10 kt k = true from h1) hk 10000 (by omega) w
        cases r with
        | none =>
          cases o with
          | some _ => exact h11.elim
          | none =>
            have hs : H.set b (.map (es ++ [⟨k, x, c⟩]) (Nat.succ c)) = some H' := h9
            obtain ⟨q1, q2⟩ := Rel.setObj (y := .map (es ++ [⟨k, x, c⟩]) (Nat.succ c)) (o := .map (rs.push { key := kv, val := xv, born := c' }) (c' + 1)) h hl h4 trivial trivial hs ⟨_, _, rfl, by rw [Array.toList_push]; exact h7.push hk hx⟩
            refine Sim.skip ?_ q1 q2
            simp only [Instr.mapUpdate, Sem.run_bind, run_underlying g1, Result.andThen_ok, h6, hck, h10]
            exact setObj_run h6' (by simp)
        | some r =>
          obtain ⟨i, key', val'⟩ := r
          cases o with
          | none => exact h11.elim
          | some o =>
            obtain ⟨j, u⟩ := o
            obtain ⟨rfl, _, e, m', q3, q4, q5, q6, q7, q8, q9⟩ := h11
            obtain ⟨hsame, h12⟩ := cond_ok (show cond (sameV key' k) (H.set b (.map (setEnt k x es i) c)) none = some H' from h9) (by simp)
            obtain ⟨q1, q2⟩ := Rel.setObj (y := .map (setEnt k x es i) c) (o := .map (rs.modify i fun e => { e with key := kv, val := xv }) c') h hl h4 trivial trivial h12 ⟨_, _, rfl, by rw [Array.toList_modify]; exact h7.modify hk hx i⟩
            refine Sim.skip ?_ q1 q2
            have hold : ((rs[i]?).map (·.key)).getD kv = m'.key := by
              have : rs[i]? = some m' := by simpa using q4
              rw [this]; rfl
            have hstay : (Instr.keyThatStays m'.key kv).run P w = .ok kv w := by
              simp only [Instr.keyThatStays, sameV_same hsame q8 hk 9999, if_true, Sem.run_pure]
            simp only [Instr.mapUpdate, Sem.run_bind, run_underlying g1, Result.andThen_ok, h6, hck, h10, hold, hstay]
            exact setObj_run h6' (by simp)
    · cases h3
  | _ => rw [ht] at hr; cases hr
end Vam
