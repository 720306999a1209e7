/- The plain machine (VamPure): part of a proof by a machine of plain values that is proved right. -/
import Derived.Test.YtnkmhgojbinhkabVamAll
namespace Vam
set_option linter.unusedVariables false
set_option linter.unusedSimpArgs false
open Go
variable {P : Program} {φ : Phi} {H H' : CH} {w : World} {v : V} {E : Ev}

/-- A BLOCK FOR MEMORY THAT IS THERE. -/
theorem Rel.adopt (h : Rel P φ H w) (hn : H.n.wf) {x : Blk} {k : Loc} (hr : k.r < w.heap.size) (e1 : H'.n = H.n.next) (e3 : ∀ j : Id, j.wf → H'.get j = if j = H.n then some x else H.get j)
    (hx : BlkR P (φ.with H.n k) x k (w.heap[k.r]?)) (hsep : ∀ c l y, φ c = some l → l.r = k.r → H.get c = some y → Sep H.n x k c y l ∧ Sep c y l H.n x k) : Rel P (φ.with H.n k) H' w := by
  have hnone := h.none_at_n hn
  have hle := Phi.le_with k hnone
  have hget : ∀ b l, φ b = some l → H'.get b = H.get b := by
    intro b l hb
    rw [e3 b (h.wf b l hb).1, if_neg]
    intro e; rw [e, hnone] at hb; cases hb
  refine ⟨?_, ?_, ?_, ?_⟩
  · rw [e1]; exact Id.okN_next hn
  · intro b l hb
    by_cases e : b = H.n
    · subst e
      rw [Phi.with_self] at hb; cases hb
      exact ⟨hn, by rw [e1]; exact Before.self hn, hr⟩
    · rw [Phi.with_ne _ e] at hb
      obtain ⟨h1, h2, h3⟩ := h.wf b l hb
      exact ⟨h1, by rw [e1]; exact Before.next hn h2, h3⟩
  · intro b l hb
    by_cases e : b = H.n
    · subst e
      rw [Phi.with_self] at hb; cases hb
      exact ⟨x, by rw [e3 _ hn, if_pos rfl], hx⟩
    · rw [Phi.with_ne _ e] at hb
      obtain ⟨y, h1, h2⟩ := h.blk b l hb
      exact ⟨y, (hget b l hb).trans h1, h2.mono hle⟩
  · intro b c l m y z hb hc hne hlr hy hz
    by_cases e : b = H.n
    · subst e
      rw [Phi.with_self] at hb; cases hb
      rw [Phi.with_ne _ (Ne.symm hne)] at hc
      rw [e3 _ hn, if_pos rfl] at hy; cases hy
      exact (hsep c m z hc hlr.symm ((hget c m hc).symm.trans hz)).1
    · rw [Phi.with_ne _ e] at hb
      by_cases e' : c = H.n
      · subst e'
        rw [Phi.with_self] at hc; cases hc
        rw [e3 _ hn, if_pos rfl] at hz; cases hz
        exact (hsep b l y hb hlr ((hget b l hb).symm.trans hy)).2
      · rw [Phi.with_ne _ e'] at hc
        exact h.sep b c l m y z hb hc hne hlr ((hget b l hb).symm.trans hy) ((hget c m hc).symm.trans hz)

/-! ## The arguments' own heap -/

/-- the place of a moved slice -/
def locAt (k : Loc) (off : Nat) : Loc := ⟨k.r, k.o + off, k.m - off⟩

structure InI (P : Program) (φ : Phi) (w : World) (φG : Phi) (G : CH) (os : List (Id × Nat)) : Prop where
  rel : Rel P φG G w
  fz : G.fz = 0
  num : G.n.wf → G.n.num = os.length
  dom : ∀ b k, φG b = some k → (∃ cs, G.get b = some (.arg cs)) ∧ ∃ c off kc, os[b.num]? = some (c, off) ∧ φ c = some kc ∧ k = locAt kc off ∧ off ≤ kc.m
  all : ∀ i, i < os.length → ∃ b k, b.num = i ∧ φG b = some k

theorem InI.start (P : Program) (φ : Phi) (w : World) : InI P φ w (fun _ => none) H0 [] where
  rel := ⟨.inr rfl, fun b k h => (by cases h), fun b k h => (by cases h), fun b c l k x y h => (by cases h)⟩
  fz := rfl
  num := fun _ => rfl
  dom := fun b k h => (by cases h)
  all := fun i h => (by cases h)

theorem forceN_eq {α : Type} (k : Nat → α) (n : Nat) : forceN k n = k n := by cases n <;> rfl
theorem forceC_eq {α : Type} (k : Int → α) (i : Int) : forceC k i = k i := by
  cases i with
  | ofNat n => cases n <;> rfl
  | negSucc n => cases n <;> rfl

theorem mvThen_ok {r : Mv} {k : V → CH → List (Id × Nat) → Mv} {v : V} {G : CH} {o : List (Id × Nat)} (h : mvThen r k = .ok v G o) : ∃ v₁ G₁ o₁, r = .ok v₁ G₁ o₁ ∧ k v₁ G₁ o₁ = .ok v G o := by
  cases r with
  | no => cases h
  | ok v₁ G₁ o₁ => exact ⟨v₁, G₁, o₁, rfl, h⟩

theorem Mv.ok_ne {v : V} {G : CH} {o : List (Id × Nat)} : Mv.ok v G o ≠ Mv.no := by intro h; cases h

/-- one more argument's block -/
theorem in_adopt (h : Rel P φ H w) {φG : Phi} {G G' : CH} {os : List (Id × Nat)} (hI : InI P φ w φG G os) {b : Id} {kc : Loc} (hb : φ b = some kc) {off : Nat} (hoff : off ≤ kc.m) {cells : V} {vs : List Value}
    (hl : LR φG cells vs) (hlen : vs.length ≤ kc.m - off) {arr : Array Value} {el : TypeId} {fr : Nat × Nat} (harr : w.heap[kc.r]? = some (.cells arr el fr)) (hfit : kc.o + kc.m ≤ arr.size)
    (hat : ∀ i v, vs[i]? = some v → arr[kc.o + off + i]? = some v) (hn : G.n.wf) (e1 : G'.n = G.n.next) (e2 : G'.fz = G.fz) (e3 : ∀ j : Id, j.wf → G'.get j = if j = G.n then some (.arg cells) else G.get j) :
    InI P φ w (φG.with G.n (locAt kc off)) G' (os ++ [(b, off)]) := by
  have hnone := hI.rel.none_at_n hn
  have hle := Phi.le_with (locAt kc off) hnone
  have hnum := hI.num hn
  refine ⟨?_, e2.trans hI.fz, ?_, ?_, ?_⟩
  · refine Rel.adopt hI.rel hn (h.wf b kc hb).2.2 e1 e3 ?_ ?_
    · refine ⟨arr, el, fr, harr, ?_, ?_, vs, hl.mono hle, hat⟩
      · show kc.o + off + (kc.m - off) ≤ arr.size; omega
      · rw [LR.len hl]; exact hlen
    · intro c l y hc _ hy
      obtain ⟨⟨cs, hcs⟩, _⟩ := hI.dom c l hc
      rw [hcs] at hy; cases hy
      exact ⟨.inr (.inr (.inl ⟨fun h => h.elim, fun h => h.elim⟩)), .inr (.inr (.inl ⟨fun h => h.elim, fun h => h.elim⟩))⟩
  · intro hwf
    rw [e1] at hwf ⊢
    rcases Id.next_wf hn with h1 | ⟨_, h1⟩
    · rw [h1] at hwf; exact hwf.elim
    · rw [h1, hnum]; simp
  · intro c l hc
    by_cases ec : c = G.n
    · subst ec
      rw [Phi.with_self] at hc; cases hc
      refine ⟨⟨cells, by rw [e3 _ hn, if_pos rfl]⟩, b, off, kc, ?_, hb, rfl, hoff⟩
      rw [hnum]; simp
    · rw [Phi.with_ne _ ec] at hc
      obtain ⟨⟨cs, hcs⟩, c', off', kc', h1, h2⟩ := hI.dom c l hc
      refine ⟨⟨cs, by rw [e3 _ (hI.rel.wf c l hc).1, if_neg ec]; exact hcs⟩, c', off', kc', ?_, h2⟩
      obtain ⟨h3, _⟩ := List.getElem?_eq_some_iff.1 h1
      rw [List.getElem?_append_left h3]; exact h1
  · intro i hi
    by_cases h1 : i < os.length
    · obtain ⟨c, l, h2, h3⟩ := hI.all i h1
      exact ⟨c, l, h2, hle c l h3⟩
    · simp at hi
      exact ⟨G.n, _, by omega, Phi.with_self φG G.n _⟩

theorem within_ok (h : Rel P φ H w) {b : Id} {kc : Loc} (hb : φ b = some kc) {off n : Nat} {cells : V} (hw : within (H.get b) off n = true) (hr : readCells H b off n = some cells) :
    off ≤ kc.m ∧ ∃ arr el fr vs, w.heap[kc.r]? = some (.cells arr el fr) ∧ kc.o + kc.m ≤ arr.size ∧ LR φ cells vs ∧ vs.length = n ∧ n ≤ kc.m - off ∧ ∀ i v, vs[i]? = some v → arr[kc.o + off + i]? = some v := by
  obtain ⟨cs, e, st, sh, arr, el, fr, h1, h2, h3, h4, us, h5, h6⟩ := h.cells hb hr
  obtain ⟨h7, h8, h9⟩ := LR.take n (h5.drop off) h1
  have hlu := LR.len h5
  rw [List.length_drop] at h7
  have hoff : off ≤ kc.m := by
    cases n with
    | zero =>
      obtain ⟨x, hx, hbl⟩ := h.blk b kc hb
      have hw : onCells false (fun cs _ _ _ => Nat.ble off (lenV cs 0)) (H.get b) = true := hw
      rw [hx] at hw
      cases x with
      | cells cs' e' st' sh' =>
        obtain ⟨w1, w2⟩ := cond_ok' (no := false) hw (by simp)
        have w3 := Nat.le_of_ble_eq_true w2
        rw [lenV_eq] at w3
        rcases hbl with hbl | ⟨⟨arr', el', q1, q2, q3, _⟩, _⟩
        · subst hbl; cases w1
        · omega
      | arg cs' =>
        have w3 := Nat.le_of_ble_eq_true (show Nat.ble off (lenV cs' 0) = true from hw)
        rw [lenV_eq] at w3
        obtain ⟨arr', el', fr', q1, q2, q3, _⟩ := hbl
        omega
      | _ => cases hw
    | succ n => omega
  refine ⟨hoff, arr, el, fr, _, h2, h3, h8, ?_, ?_, ?_⟩
  · rw [List.length_take, List.length_drop]; omega
  · omega
  · intro i v hi
    rw [List.getElem?_take] at hi
    split at hi
    · rw [List.getElem?_drop] at hi
      have := h6 _ _ hi
      rwa [show kc.o + (off + i) = kc.o + off + i by omega] at this
    · cases hi

theorem inList_rel {f : V → MvK} (ih : ∀ {v : V} {vv : Value} {φG : Phi} {G : CH} {os : List (Id × Nat)} {v' : V} {G' : CH} {os' : List (Id × Nat)}, VR φ v vv → InI P φ w φG G os → f v G os = .ok v' G' os' →
      ∃ φG', InI P φ w φG' G' os' ∧ φG.le φG' ∧ VR φG' v' vv) :
    ∀ {vs : List Value} {l : V} {φG : Phi} {G : CH} {os : List (Id × Nat)} {l' : V} {G' : CH} {os' : List (Id × Nat)}, LR φ l vs → InI P φ w φG G os → inList f l G os = .ok l' G' os' →
      ∃ φG', InI P φ w φG' G' os' ∧ φG.le φG' ∧ LR φG' l' vs := by
  intro vs
  induction vs with
  | nil =>
    intro l φG G os l' G' os' hl hI hr
    cases hl
    cases (show Mv.ok .nil G os = .ok l' G' os' from hr)
    exact ⟨φG, hI, Phi.le_refl _, .nil⟩
  | cons x vs ihl =>
    intro l φG G os l' G' os' hl hI hr
    cases hl with
    | cons y l _ _ h1 h2 =>
      obtain ⟨v₁, G₁, o₁, g1, g2⟩ := mvThen_ok (show mvThen (f y G os) (fun x H o => mvThen (inList f l H o) (fun l H o => .ok (.cons x l) H o)) = .ok l' G' os' from hr)
      obtain ⟨φ₁, i1, i2, i3⟩ := ih h1 hI g1
      obtain ⟨l₂, G₂, o₂, g3, g4⟩ := mvThen_ok g2
      cases g4
      obtain ⟨φ₂, j1, j2, j3⟩ := ihl h2 i1 g3
      exact ⟨φ₂, j1, Phi.le_trans i2 j2, .cons _ _ _ _ (i3.mono j2) j3⟩

theorem in_rel (h : Rel P φ H w) : ∀ (k : Nat) {v : V} {vv : Value} {φG : Phi} {G : CH} {os : List (Id × Nat)} {v' : V} {G' : CH} {os' : List (Id × Nat)}, VR φ v vv → InI P φ w φG G os → inV H k v G os = .ok v' G' os' →
      ∃ φG', InI P φ w φG' G' os' ∧ φG.le φG' ∧ VR φG' v' vv := by
  intro k
  induction k with
  | zero => intro v vv φG G os v' G' os' _ _ hr; cases (show Mv.no = .ok v' G' os' from hr)
  | succ k ih =>
    intro v vv φG G os v' G' os' hv hI hr
    cases hv with
    | bool b =>
      cases b <;> (cases hr; exact ⟨φG, hI, Phi.le_refl _, .bool _⟩)
    | int kk n =>
      have hr : forceC (fun n => inStay (.int kk n)) n G os = .ok v' G' os' := hr
      rw [forceC_eq] at hr
      cases hr; exact ⟨φG, hI, Phi.le_refl _, .int _ _⟩
    | str s => cases hr; exact ⟨φG, hI, Phi.le_refl _, .str _⟩
    | nils => cases hr; exact ⟨φG, hI, Phi.le_refl _, .nils⟩
    | nilf => cases hr; exact ⟨φG, hI, Phi.le_refl _, .nilf⟩
    | func f a b A B hA hB =>
      cases a <;> first | (cases hr; done) | skip
      cases b <;> first | (cases hr; done) | skip
      cases hr
      have e1 : A = #[] := by apply Array.ext'; simpa using LR.inv_nil hA
      have e2 : B = #[] := by apply Array.ext'; simpa using LR.inv_nil hB
      subst e1; subst e2
      exact ⟨φG, hI, Phi.le_refl _, .func f _ _ _ _ .nil .nil⟩
    | agg l cs hl =>
      obtain ⟨l₁, G₁, o₁, g1, g2⟩ := mvThen_ok (show mvThen (inList (inV H k) l G os) (fun l H o => .ok (.agg l) H o) = .ok v' G' os' from hr)
      cases g2
      obtain ⟨φ₁, i1, i2, i3⟩ := inList_rel (fun a b c => ih a b c) hl hI g1
      exact ⟨φ₁, i1, i2, .agg _ _ i3⟩
    | slice b off len cc sz cap kc hk hcap =>
      have hr : inSlice H (inV H k) b off len cc sz G os = .ok v' G' os' := hr
      unfold inSlice at hr
      obtain ⟨hw, hr1⟩ := cond_ok hr Mv.ok_ne
      obtain ⟨cells, hc, hr2⟩ := opt_ok hr1 Mv.ok_ne
      obtain ⟨hoff, arr, el, fr, vs, g1, g2, g3, g4, g5, g6⟩ := within_ok h hk hw hc
      obtain ⟨l₁, G₁, o₁, g7, g8⟩ := mvThen_ok hr2
      obtain ⟨φ₁, i1, i2, i3⟩ := inList_rel (fun a b c => ih a b c) g3 hI g7
      obtain ⟨G₂, e1, e2, e3, e4, e5⟩ := alloc_eq g8 Mv.ok_ne i1.rel.nok
      unfold inSlice1 at e1
      rw [forceN_eq, forceN_eq, forceN_eq] at e1
      cases e1
      have hlen : vs.length ≤ kc.m - off := by rw [g4]; exact g5
      refine ⟨_, in_adopt h i1 hk hoff i3 hlen g1 g2 g6 e2 e3 e4 e5, Phi.le_trans i2 (Phi.le_with _ (i1.rel.none_at_n e2)), ?_⟩
      obtain ⟨c1, c2, c3⟩ := hcap
      have hco : CapOk (locAt kc off) 0 len (cond (capE cc) cc (capA len)) sz cap := by
        cases he : capE cc with
        | true => exact ⟨c1, fun _ => c2 he, fun hf => (by rw [show capE (cond true cc (capA len)) = capE cc from rfl, he] at hf; cases hf)⟩
        | false =>
          obtain ⟨q1, q2⟩ := c3 he
          have e7 : capN (capA len) = len := by
            show (2 * len) / 2 = len; omega
          have e8 : capE (capA len) = false := by
            show Nat.beq ((2 * len) % 2) 1 = false
            rw [Nat.mul_mod_right]; rfl
          exact ⟨by show len ≤ capN (capA len); rw [e7]; exact Nat.le_refl _, fun hf => (by rw [show capE (cond false cc (capA len)) = capE (capA len) from rfl, e8] at hf; cases hf),
            fun _ => ⟨by show capN (capA len) ≤ cap; rw [e7]; omega, by show 0 + cap * sz ≤ kc.m - off; omega⟩⟩
      exact .slice G₁.n 0 len _ sz cap (locAt kc off) (Phi.with_self φ₁ G₁.n _) hco
    | _ => cases hr
end Vam
