/- The plain machine (VamOut): part of a proof by a machine of plain values that is proved right. -/
import Derived.Test.YtnkmhgojbinhkabVamPure
namespace Vam
set_option linter.unusedVariables false
set_option linter.unusedSimpArgs false
open Go
variable {P : Program} {φ : Phi} {H H' : CH} {w : World} {v : V} {E : Ev}

theorem bkThen_ok {r : Bk} {k : V → CH → List (Nat × Id) → Bk} {v : V} {G : CH} {o : List (Nat × Id)} (h : bkThen r k = .ok v G o) : ∃ v₁ G₁ o₁, r = .ok v₁ G₁ o₁ ∧ k v₁ G₁ o₁ = .ok v G o := by
  cases r with
  | no => cases h
  | ok v₁ G₁ o₁ => exact ⟨v₁, G₁, o₁, rfl, h⟩
theorem Bk.ok_ne {v : V} {G : CH} {o : List (Nat × Id)} : Bk.ok v G o ≠ Bk.no := by intro h; cases h

theorem findM_cons (b : Nat) (p : Nat × Id) (m : List (Nat × Id)) : findM b (p :: m) = cond (Nat.beq p.1 b) (some p.2) (findM b m) := rfl

/-- what is known when a call in the small heap has come back -/
structure OutE (P : Program) (φ : Phi) (H : CH) (w : World) (φG : Phi) (G : CH) (os : List (Id × Nat)) (φ' : Phi) (G' : CH) (w' : World) : Prop where
  rel : Rel P φ H w
  inn : InI P φ w φG G os
  back : Rel P φ' G' w'
  ext : Ext φG G w φ' G' w'

variable {φG φ' : Phi} {G G' : CH} {os : List (Id × Nat)} {w' : World}

theorem OutE.noWr (h : OutE P φ H w φG G os φ' G' w') {b : Id} {k : Loc} (hb : φG b = some k) : ¬ WrAt G b := by
  rintro ⟨_, x, hx, hw⟩
  obtain ⟨⟨cs, hcs⟩, _⟩ := h.inn.dom b k hb
  rw [hcs] at hx; cases hx; exact hw

theorem OutE.same (h : OutE P φ H w φG G os φ' G' w') {r : Nat} (hr : r < w.heap.size) : w'.heap[r]? = w.heap[r]? :=
  h.ext.frame r hr (fun b k hb _ => h.noWr hb)

theorem OutE.start (h : OutE P φ H w φG G os φ' G' w') : Rel P φ H w' ∧ Ext φ H w φ H w' := by
  refine ⟨⟨h.rel.nok, fun b k hb => ?_, fun b k hb => ?_, h.rel.sep⟩, ?_⟩
  · obtain ⟨h1, h2, h3⟩ := h.rel.wf b k hb
    exact ⟨h1, h2, Nat.lt_of_lt_of_le h3 h.ext.size⟩
  · obtain ⟨x, h1, h2⟩ := h.rel.blk b k hb
    exact ⟨x, h1, by rw [h.same (h.rel.wf b k hb).2.2]; exact h2⟩
  · refine ⟨Phi.le_refl φ, rfl, ?_, fun _ h => h, ?_, fun r hr _ => h.same hr, fun _ _ _ h => h, fun _ _ _ _ => rfl, h.ext.size, h.ext.os, h.ext.tape, h.ext.output, h.ext.fro⟩
    · intro c l h1 h2; rw [h2] at h1; cases h1
    · intro c l h1 h2; rw [h2] at h1; cases h1

theorem OutE.fresh (h : OutE P φ H w φG G os φ' G' w') {b : Id} {k : Loc} (hb : φ' b = some k) (hn : nthO os b.num = none) : w.heap.size ≤ k.r := by
  cases hg : φG b with
  | none =>
    rcases h.ext.newLoc b k hb hg with h1 | ⟨c, l, h1, _, h3⟩
    · exact h1
    · exact absurd h3 (h.noWr h1)
  | some l =>
    obtain ⟨_, c, off, kc, h1, _⟩ := h.inn.dom b l hg
    rw [nthO_get, h1] at hn; cases hn

theorem OutE.arg (h : OutE P φ H w φG G os φ' G' w') {b : Id} {k : Loc} (hb : φ' b = some k) {c : Id} {off : Nat} (hn : nthO os b.num = some (c, off)) : ∃ kc, φ c = some kc ∧ k = locAt kc off ∧ off ≤ kc.m := by
  rw [nthO_get] at hn
  obtain ⟨h3, _⟩ := List.getElem?_eq_some_iff.1 hn
  obtain ⟨b', k', h4, h5⟩ := h.inn.all b.num h3
  have e : b' = b := Id.wf_inj (h.inn.rel.wf b' k' h5).1 (h.back.wf b k hb).1 h4
  subst e
  have := h.ext.le b' k' h5
  rw [hb] at this; cases this
  obtain ⟨_, c', off', kc, h6, h7⟩ := h.inn.dom b' k h5
  rw [hn] at h6; cases h6
  exact ⟨kc, h7⟩

structure OutI (P : Program) (φ : Phi) (H : CH) (w : World) (φ' : Phi) (G' : CH) (w' : World) (ψ : Phi) (K : CH) (m : List (Nat × Id)) : Prop where
  rel : Rel P ψ K w'
  ext : Ext φ H w ψ K w'
  mem : ∀ n id, findM n m = some id → ∃ b k, b.num = n ∧ φ' b = some k ∧ ψ id = some k
  new : ∀ id k, ψ id = some k → φ id = none → ∃ b cs e sh, φ' b = some k ∧ G'.get b = some (.cells cs e 0 sh) ∧ ∃ i, findM b.num m = some i

theorem out_adopt (h : OutE P φ H w φG G os φ' G' w') {ψ : Phi} {K K' : CH} {m : List (Nat × Id)} (hI : OutI P φ H w φ' G' w' ψ K m) {b : Id} {k : Loc} (hb : φ' b = some k) (hn : nthO os b.num = none)
    {cs cs' : V} {e : TypeId} {sh : List Id} (hg : G'.get b = some (.cells cs e 0 sh)) (hm : findM b.num m = none) {us : List Value} (hl : LR ψ cs' us) {arr : Array Value} {el : TypeId}
    (q1 : w'.heap[k.r]? = some (.cells arr el (0, 0))) (q2 : k.o + k.m ≤ arr.size) (q3 : us.length ≤ k.m) (q5 : ∀ i v, us[i]? = some v → arr[k.o + i]? = some v) (hw : K.n.wf)
    (e1 : K'.n = K.n.next) (e2 : K'.fz = K.fz) (e3 : ∀ j : Id, j.wf → K'.get j = if j = K.n then some (.cells cs' e 0 []) else K.get j) :
    OutI P φ H w φ' G' w' (ψ.with K.n k) K' ((b.num, K.n) :: m) := by
  have hfresh := h.fresh hb hn
  have hnone := hI.rel.none_at_n hw
  have hle := Phi.le_with k hnone
  refine ⟨?_, ?_, ?_, ?_⟩
  · refine Rel.adopt hI.rel hw (h.back.wf b k hb).2.2 e1 e3 ?_ ?_
    · exact .inr ⟨⟨arr, el, q1, q2, by rw [LR.len hl]; exact q3, us, hl.mono hle, q5⟩, by simp⟩
    · intro c l y hc hlr hy
      exfalso
      cases hc0 : φ c with
      | some l' =>
        have := hI.ext.le c l' hc0
        rw [hc] at this; cases this
        have := (h.rel.wf c l hc0).2.2
        omega
      | none =>
        obtain ⟨b₂, cs₂, e₂, sh₂, h1, h2, i, h3⟩ := hI.new c l hc hc0
        have hne : b ≠ b₂ := by rintro rfl; rw [hm] at h3; cases h3
        rcases h.back.sep b b₂ k l _ _ hb h1 hne hlr.symm hg h2 with hd | hd | ⟨hd, _⟩ | ⟨_, _, _, _, _, _, _, _, hd, _⟩ | ⟨_, _, _, _, _, _, _, _, hd, _⟩
        · cases hd
        · cases hd
        · exact hd rfl
        · cases hd
        · cases hd
  · refine ⟨Phi.le_trans hI.ext.le hle, e2.trans hI.ext.fz, ?_, ?_, ?_, hI.ext.frame, ?_, ?_, hI.ext.size, hI.ext.os, hI.ext.tape, hI.ext.output, hI.ext.fro⟩
    · intro c l hc hc0 hbf
      by_cases ec : c = K.n
      · subst ec; exact not_before_self hw (hI.ext.before _ hbf)
      · rw [Phi.with_ne _ ec] at hc; exact hI.ext.newId c l hc hc0 hbf
    · intro c hc; rw [e1]; exact Before.next hw (hI.ext.before c hc)
    · intro c l hc hc0
      by_cases ec : c = K.n
      · subst ec; rw [Phi.with_self] at hc; cases hc; exact .inl hfresh
      · rw [Phi.with_ne _ ec] at hc; exact hI.ext.newLoc c l hc hc0
    · rintro c hcb hcw hnw ⟨h1, y, h2, h3⟩
      have hne : c ≠ K.n := by rintro rfl; exact not_before_self hw (hI.ext.before _ hcb)
      rw [e3 c hcw, if_neg hne] at h2
      exact hI.ext.ro c hcb hcw hnw ⟨by rw [← e2]; exact h1, y, h2, h3⟩
    · intro c hcb hcw hf
      have hne : c ≠ K.n := by rintro rfl; exact not_before_self hw (hI.ext.before _ hcb)
      rw [e3 c hcw, if_neg hne]; exact hI.ext.keep c hcb hcw hf
  · intro n id hf
    rw [findM_cons] at hf
    cases hq : Nat.beq b.num n with
    | true =>
      rw [show (b.num, K.n).1 = b.num from rfl, hq] at hf
      cases (show some K.n = some id from hf)
      exact ⟨b, k, beq_eq hq, hb, Phi.with_self ψ K.n k⟩
    | false =>
      rw [show (b.num, K.n).1 = b.num from rfl, hq] at hf
      obtain ⟨b', k', h1, h2, h3⟩ := hI.mem n id hf
      exact ⟨b', k', h1, h2, hle _ _ h3⟩
  · intro id l hid hid0
    by_cases ec : id = K.n
    · subst ec; rw [Phi.with_self] at hid; cases hid
      refine ⟨b, cs, e, sh, hb, hg, K.n, ?_⟩
      rw [findM_cons, show (b.num, K.n).1 = b.num from rfl, show Nat.beq b.num b.num = true from Nat.beq_refl _]; rfl
    · rw [Phi.with_ne _ ec] at hid
      obtain ⟨b', cs₂, e₂, sh₂, h1, h2, i, h3⟩ := hI.new id l hid hid0
      refine ⟨b', cs₂, e₂, sh₂, h1, h2, ?_⟩
      rw [findM_cons]
      cases Nat.beq (b.num, K.n).1 b'.num with
      | true => exact ⟨_, rfl⟩
      | false => exact ⟨i, h3⟩
/-- what moving back a value must come to -/
def MvBack (P : Program) (φ : Phi) (H : CH) (w : World) (φ' : Phi) (G' : CH) (w' : World) (f : V → BkK) : Prop := ∀ {v : V} {vv : Value} {ψ : Phi} {K : CH} {m : List (Nat × Id)} {v' : V} {K' : CH} {m' : List (Nat × Id)},
  VR φ' v vv → OutI P φ H w φ' G' w' ψ K m → f v K m = .ok v' K' m' → ∃ ψ', OutI P φ H w φ' G' w' ψ' K' m' ∧ ψ.le ψ' ∧ VR ψ' v' vv

theorem outList_rel {f : V → BkK} (ih : MvBack P φ H w φ' G' w' f) : ∀ {vs : List Value} {l : V} {ψ : Phi} {K : CH} {m : List (Nat × Id)} {l' : V} {K' : CH} {m' : List (Nat × Id)}, LR φ' l vs →
    OutI P φ H w φ' G' w' ψ K m → outList f l K m = .ok l' K' m' → ∃ ψ', OutI P φ H w φ' G' w' ψ' K' m' ∧ ψ.le ψ' ∧ LR ψ' l' vs := by
  intro vs
  induction vs with
  | nil =>
    intro l ψ K m l' K' m' hl hI hr
    cases hl
    cases (show Bk.ok .nil K m = .ok l' K' m' from hr)
    exact ⟨ψ, hI, Phi.le_refl _, .nil⟩
  | cons x vs ihl =>
    intro l ψ K m l' K' m' hl hI hr
    cases hl with
    | cons y l _ _ h1 h2 =>
      obtain ⟨v₁, K₁, m₁, g1, g2⟩ := bkThen_ok (show bkThen (f y K m) (fun x H m => bkThen (outList f l H m) (fun l H m => .ok (.cons x l) H m)) = .ok l' K' m' from hr)
      obtain ⟨ψ₁, i1, i2, i3⟩ := ih h1 hI g1
      obtain ⟨l₂, K₂, m₂, g3, g4⟩ := bkThen_ok g2
      cases g4
      obtain ⟨ψ₂, j1, j2, j3⟩ := ihl h2 i1 g3
      exact ⟨ψ₂, j1, Phi.le_trans i2 j2, .cons _ _ _ _ (i3.mono j2) j3⟩

theorem out_slice (h : OutE P φ H w φG G os φ' G' w') {f : V → BkK} (ih : MvBack P φ H w φ' G' w' f) {b : Id} {off len cc sz cap : Nat} {k : Loc} (hk : φ' b = some k) (hcap : CapOk k off len cc sz cap)
    {ψ : Phi} {K : CH} {m : List (Nat × Id)} {v' : V} {K' : CH} {m' : List (Nat × Id)} (hI : OutI P φ H w φ' G' w' ψ K m) (hr : outSlice G' os f b off len cc sz K m = .ok v' K' m') :
    ∃ ψ', OutI P φ H w φ' G' w' ψ' K' m' ∧ ψ.le ψ' ∧ VR ψ' v' (.slice (some ⟨k.r, k.o + off, none⟩) len cap) := by
  unfold outSlice at hr
  cases hn : nthO os b.num with
  | some bo =>
    rw [hn] at hr
    obtain ⟨c, o⟩ := bo
    cases (show Bk.ok (.slice c (o + off) len cc sz) K m = .ok v' K' m' from hr)
    obtain ⟨kc, h1, rfl, h3⟩ := h.arg hk hn
    refine ⟨ψ, hI, Phi.le_refl _, ?_⟩
    have e : ((locAt kc o).o + off) = kc.o + (o + off) := by show kc.o + o + off = _; omega
    rw [e]
    obtain ⟨c1, c2, c3⟩ := hcap
    refine .slice c (o + off) len cc sz cap kc (hI.ext.le _ _ h1) ⟨c1, c2, fun he => ?_⟩
    obtain ⟨d1, d2⟩ := c3 he
    have d2 : off + cap * sz ≤ kc.m - o := d2
    exact ⟨d1, by omega⟩
  | none =>
    rw [hn] at hr
    have hr : onCells outNo (outNew f b off len cc sz) (G'.get b) K m = .ok v' K' m' := hr
    have hcase : (∃ cs e st sh, G'.get b = some (.cells cs e st sh) ∧ outNew f b off len cc sz cs e st sh K m = .ok v' K' m') ∨ (∃ cs, outNew f b off len cc sz cs 0 1 [] K m = .ok v' K' m') := by
      cases hg : G'.get b with
      | none => rw [hg] at hr; cases hr
      | some x =>
        rw [hg] at hr
        cases x with
        | cells cs e st sh =>
          have hr : (cond (Nat.beq st 2) outNo (outNew f b off len cc sz cs e st sh)) K m = .ok v' K' m' := hr
          cases hb : Nat.beq st 2 with
          | true => rw [hb] at hr; cases hr
          | false => rw [hb] at hr; exact .inl ⟨cs, e, st, sh, rfl, hr⟩
        | arg cs => exact .inr ⟨cs, hr⟩
        | _ => cases hr
    have found : ∀ id, findM b.num m = some id → VR ψ (.slice id off len cc sz) (.slice (some ⟨k.r, k.o + off, none⟩) len cap) := by
      intro id hid
      obtain ⟨b₂, k₂, h1, h2, h3⟩ := hI.mem _ _ hid
      have e : b₂ = b := Id.wf_inj (h.back.wf b₂ k₂ h2).1 (h.back.wf b k hk).1 h1
      subst e
      rw [hk] at h2; cases h2
      exact .slice id off len cc sz cap k h3 hcap
    cases hm : findM b.num m with
    | some id =>
      have hv : Bk.ok (.slice id off len cc sz) K m = .ok v' K' m' := by
        rcases hcase with ⟨cs, e, st, sh, _, hr⟩ | ⟨cs, hr⟩ <;> (unfold outNew at hr; rw [hm] at hr; exact hr)
      cases hv
      exact ⟨ψ, hI, Phi.le_refl _, found id hm⟩
    | none =>
      rcases hcase with ⟨cs, e, st, sh, hg, hr⟩ | ⟨cs, hr⟩
      · unfold outNew at hr
        rw [hm] at hr
        obtain ⟨h0, hr1⟩ := cond_ok (show cond (Nat.beq st 0) _ Bk.no = .ok v' K' m' from hr) Bk.ok_ne
        have h0 := beq_eq h0
        subst h0
        obtain ⟨cs', K₁, m₁, g1, g2⟩ := bkThen_ok hr1
        obtain ⟨x, hx, hbl⟩ := h.back.blk b k hk
        rw [hg] at hx; cases hx
        rcases hbl with hbl | ⟨⟨arr, el, q1, q2, q3, us, q4, q5⟩, _⟩
        · cases hbl
        obtain ⟨ψ₁, i1, i2, i3⟩ := outList_rel ih q4 hI g1
        cases hm1 : findM b.num m₁ with
        | some id => rw [hm1] at g2; cases g2
        | none =>
          rw [hm1] at g2
          obtain ⟨K₂, e1, e2, e3, e4, e5⟩ := alloc_eq (show alloc Bk.no K₁ (.cells cs' e 0 []) (fun n H => .ok (.slice n off len cc sz) H ((b.num, n) :: m₁)) = .ok v' K' m' from g2) Bk.ok_ne i1.rel.nok
          cases e1
          refine ⟨_, out_adopt h i1 hk hn hg hm1 i3 q1 q2 (by rw [← LR.len q4]; exact q3) q5 e2 e3 e4 e5, Phi.le_trans i2 (Phi.le_with _ (i1.rel.none_at_n e2)), ?_⟩
          exact .slice K₁.n off len cc sz cap k (Phi.with_self ψ₁ K₁.n k) hcap
      · unfold outNew at hr
        rw [hm] at hr
        cases hr

theorem out_rel (h : OutE P φ H w φG G os φ' G' w') : ∀ (k : Nat), MvBack P φ H w φ' G' w' (outV G' os k) := by
  intro k
  induction k with
  | zero => intro v vv ψ K m v' K' m' _ _ hr; cases (show Bk.no = .ok v' K' m' from hr)
  | succ k ih =>
    intro v vv ψ K m v' K' m' hv hI hr
    cases hv with
    | bool b => cases hr; exact ⟨ψ, hI, Phi.le_refl _, .bool _⟩
    | int kk n =>
      have hr : forceC (fun n => outStay (.int kk n)) n K m = .ok v' K' m' := hr
      rw [forceC_eq] at hr
      cases hr; exact ⟨ψ, hI, Phi.le_refl _, .int _ _⟩
    | str s => cases hr; exact ⟨ψ, hI, Phi.le_refl _, .str _⟩
    | nils => cases hr; exact ⟨ψ, hI, Phi.le_refl _, .nils⟩
    | nilf => cases hr; exact ⟨ψ, hI, Phi.le_refl _, .nilf⟩
    | func f a b A B hA hB =>
      cases a <;> first | (cases hr; done) | skip
      cases b <;> first | (cases hr; done) | skip
      cases hr
      have e1 : A = #[] := by apply Array.ext'; simpa using LR.inv_nil hA
      have e2 : B = #[] := by apply Array.ext'; simpa using LR.inv_nil hB
      subst e1; subst e2
      exact ⟨ψ, hI, Phi.le_refl _, .func f _ _ _ _ .nil .nil⟩
    | agg l cs hl =>
      obtain ⟨l₁, K₁, m₁, g1, g2⟩ := bkThen_ok (show bkThen (outList (outV G' os k) l K m) (fun l H m => .ok (.agg l) H m) = .ok v' K' m' from hr)
      cases g2
      obtain ⟨ψ₁, i1, i2, i3⟩ := outList_rel ih hl hI g1
      exact ⟨ψ₁, i1, i2, .agg _ _ i3⟩
    | tup l cs hl =>
      obtain ⟨l₁, K₁, m₁, g1, g2⟩ := bkThen_ok (show bkThen (outList (outV G' os k) l K m) (fun l H m => .ok (.tup l) H m) = .ok v' K' m' from hr)
      cases g2
      obtain ⟨ψ₁, i1, i2, i3⟩ := outList_rel ih hl hI g1
      exact ⟨ψ₁, i1, i2, .tup _ _ i3⟩
    | slice b off len cc sz cap kc hk hcap => exact out_slice h ih hk hcap hI hr
    | _ => cases hr

/-- A CALL ON PLAIN DATA. -/
theorem pure_sound (hD : SoundCode P E) : SoundPure P E := by
  intro f args vs br φ H w v H' h ha hb _ hr
  unfold pureCall at hr
  cases hm : inList (inV H 8) args H0 [] with
  | no => rw [hm] at hr; cases hr
  | ok args' G os =>
    rw [hm] at hr
    obtain ⟨φG, i1, i2, i3⟩ := inList_rel (fun a b c => in_rel h 8 a b c) ha (InI.start P φ w) hm
    cases hc : plainCall P E f args' G br with
    | no =>
      have hr : R.rec (motive := fun _ => R) .no (fun v G => bkR (outV G os 8 v H [])) (plainCall P E f args' G br) = .ok v H' := hr
      rw [hc] at hr; cases hr
    | ok u G' =>
      have hr : R.rec (motive := fun _ => R) .no (fun v G => bkR (outV G os 8 v H [])) (plainCall P E f args' G br) = .ok v H' := hr
      rw [hc] at hr
      obtain ⟨t1, t2⟩ := plain_sound hD i1.rel i3 hb hc
      refine ⟨t1, t2.mono ?_⟩
      rintro e w' ⟨x, φ', rfl, b1, b2, b3⟩
      have hE : OutE P φ H w φG G os φ' G' w' := ⟨h, i1, b1, b2⟩
      have hr : bkR (outV G' os 8 u H []) = .ok v H' := hr
      cases ho : outV G' os 8 u H [] with
      | no => rw [ho] at hr; cases hr
      | ok u' K' m' =>
        rw [ho] at hr
        cases (show R.ok u' K' = .ok v H' from hr)
        obtain ⟨s1, s2⟩ := hE.start
        obtain ⟨ψ, j1, j2, j3⟩ := out_rel hE 8 b3 ⟨s1, s2, fun n id hf => (by cases hf), fun id k h1 h2 => (by rw [h1] at h2; cases h2)⟩ ho
        exact ⟨x, ψ, rfl, j1.rel, j1.ext, j3⟩
end Vam
