/- The plain machine (VamDraw6): part of a proof by a machine of plain values that is proved right. -/
import Derived.Test.YtnkmhgojbinhkabVamDraw5
namespace Vam
set_option linter.unusedVariables false
set_option linter.unusedSimpArgs false
open Go
variable {P : Program} {φ : Phi} {H H' K : CH} {w : World} {v : V} {E : Ev}

/-! ## What a store leaves -/

def DeadAt (H : CH) (b : Id) : Prop := ∃ cs e sh, H.get b = some (.cells cs e 2 sh)

theorem kill_get : ∀ (bs : List Id) {H H' : CH}, kill bs H = some H' → (∀ b ∈ bs, b.wf) → ∀ j : Id, j.wf → H'.get j = H.get j ∨ DeadAt H' j := by
  intro bs
  induction bs with
  | nil => intro H H' h _ j _; cases (show some H = some H' from h); exact .inl rfl
  | cons b bs ih =>
    intro H H' h hw j hj
    have h : opt none (kill bs) (opt (some H) (H.set b) (onCells none killS (H.get b))) = some H' := h
    cases hk : onCells none killS (H.get b) with
    | none => rw [hk] at h; exact ih h (fun c hc => hw c (by simp [hc])) j hj
    | some x =>
      rw [hk] at h
      obtain ⟨H₁, h1, h2⟩ := opt_ok (no := none) h (by simp)
      obtain ⟨_, _, _, h3⟩ := CH.set_some (show H.set b x = some H₁ from h1) (hw b (by simp))
      have hx : ∃ cs e sh, x = .cells cs e 2 sh := by
        cases hg : H.get b with
        | none => rw [hg] at hk; cases hk
        | some y =>
          rw [hg] at hk
          cases y with
          | cells cs e st sh =>
            have hk : cond (Nat.beq st 2) none (killS cs e st sh) = some x := hk
            cases hb : Nat.beq st 2 with
            | true => rw [hb] at hk; cases hk
            | false => rw [hb] at hk; cases hk; exact ⟨cs, e, sh, rfl⟩
          | arg cs => cases hk; exact ⟨cs, 0, [], rfl⟩
          | _ => cases hk
      rcases ih h2 (fun c hc => hw c (by simp [hc])) j hj with h4 | h4
      · rw [h4, h3 j hj]
        by_cases hjb : j = b
        · obtain ⟨cs, e, sh, rfl⟩ := hx
          right
          exact ⟨cs, e, sh, by rw [h4, h3 j hj, if_pos hjb]⟩
        · left; rw [if_neg hjb]
      · exact .inr h4

theorem store_get (h : Rel P φ H w) {t : TypeId} {x : V} {b : Id} {off : Nat} {k : Loc} (hb : φ b = some k) {J : CH} (hr : storeV P t x H b off = some J) : ∀ j : Id, j.wf → j ≠ b → J.get j = H.get j ∨ DeadAt J j := by
  have key : ∀ vs, writeCells H b off vs = some J → ∀ j : Id, j.wf → j ≠ b → J.get j = H.get j ∨ DeadAt J j := by
    intro vs hw j hj hne
    unfold writeCells at hw
    obtain ⟨y, hy, hbl⟩ := h.blk b k hb
    rcases onCells_some hw with ⟨cs, e, st, sh, h1, h2, h3⟩ | ⟨cs, h1, h3⟩
    · obtain ⟨h4, h5⟩ := cond_ok (no := none) (show cond (Nat.beq st 0) (cond (allOne vs) (opt none (fun cs' => opt none (kill sh) (H.set b (.cells cs' e 0 []))) (putV cs off vs)) none) none = some J from h3) (by simp)
      obtain ⟨_, h6⟩ := cond_ok (no := none) h5 (by simp)
      obtain ⟨cs', _, h7⟩ := opt_ok (no := none) h6 (by simp)
      obtain ⟨H₁, h8, h9⟩ := opt_ok (no := none) h7 (by simp)
      obtain ⟨_, _, _, h10⟩ := CH.set_some h8 (h.wf b k hb).1
      have hsh : ∀ s ∈ sh, s.wf := by
        rw [h1] at hy; cases hy
        rcases hbl with h11 | ⟨_, h11⟩
        · exact absurd h11 h2
        · exact h11
      rcases kill_get sh h9 hsh j hj with h12 | h12
      · left; rw [h12, h10 j hj, if_neg hne]
      · exact .inr h12
    · cases (show (none : Option CH) = some J from h3)
  unfold storeV at hr
  cases hs : shOf P t with
  | bad => rw [hs] at hr; cases hr
  | one => rw [hs] at hr; exact key _ hr
  | many n =>
    rw [hs] at hr
    obtain ⟨l, _, h1⟩ := onAgg_ok (no := none) (show onAgg none (fun l => cond (Nat.beq (lenV l 0) n) (writeCells H b off l) none) x = some J from hr) (by simp)
    obtain ⟨_, h2⟩ := cond_ok (no := none) h1 (by simp)
    exact key _ h2

/-! ## Two operations in either order -/

/-- why two operations can change places -/
inductive Swaps (tm : TT) (J : CH) (p q : Oper × Md) : Prop where
  | coldL : p.2 = .plain → heapy p.1.op = false → Swaps tm J p q
  | coldR : q.2 = .plain → heapy q.1.op = false → Swaps tm J p q
  | preL (i : Id) : p.2 = .pre i → Swaps tm J p q
  | preR (i : Id) : q.2 = .pre i → Swaps tm J p q
  | readL (ld : Bool) : p.2 = .read ld → q.2 ≠ .plain → Swaps tm J p q
  | readR (ld : Bool) : q.2 = .read ld → p.2 ≠ .plain → Swaps tm J p q
  | lays (i j : Id) : p.2 = .lay i → q.2 = .lay j → i ≠ j → Swaps tm J p q
  | places (t : TypeId) (a : Nat) (t' : TypeId) (b : Nat) (y : Operand) (b₁ : Id) (o₁ : Nat) (b₂ : Id) (o₂ : Nat) : p.1.op = .load t (.tmp a) → p.2 = .read true → q.1.op = .store t' (.tmp b) y → q.2 = .plain →
      tm.get a = .ptr b₁ o₁ → tm.get b = .ptr b₂ o₂ → b₁ ≠ b₂ → ¬ DeadAt J b₁ → Swaps tm J p q

theorem Rel.like' (h : Rel P φ H w) (hn : K.n.okN) (hbef : ∀ b, Before b H.n → Before b K.n) (hg : ∀ b k, φ b = some k → K.get b = H.get b) : Rel P φ K w := by
  refine ⟨hn, fun b k hb => ⟨(h.wf b k hb).1, hbef b (h.wf b k hb).2.1, (h.wf b k hb).2.2⟩, fun b k hb => by rw [hg b k hb]; exact h.blk b k hb, ?_⟩
  intro b c l k x y hb hc hne hr hx hy
  rw [hg b l hb] at hx; rw [hg c k hc] at hy
  exact h.sep b c l k x y hb hc hne hr hx hy

theorem swap_op (hC : SoundCall P E) (hD : SoundCode P E) (hG : CongPure P E) {φ₀ : Phi} {H₀ : CH} {w₀ : World} {l : List (Oper × Md)} (hI : DInv P φ₀ H₀ w₀ l φ H w) {p q : Oper × Md} (hp : p ∈ l) (hq : q ∈ l)
    {tm : TT} {tmps : Array Value} (htm : TmR φ tm tmps) (hokp : okOper tmps.size p.1 = true) (hokq : okOper tmps.size q.1 = true) {H₁ H₂ : CH} {vp vq : V}
    (h1 : drawOp P E tm H p.2 p.1.op = .ok vp H₁) (h2 : drawOp P E tm H₁ q.2 q.1.op = .ok vq H₂) (hsw : Swaps tm H₂ p q) :
    ∃ H₁', drawOp P E tm H q.2 q.1.op = .ok vq H₁' ∧ drawOp P E tm H₁' p.2 p.1.op = .ok vp H₂ := by
  have h := hI.rel
  obtain ⟨po, pm⟩ := p
  obtain ⟨qo, qm⟩ := q
  -- what a step that is no plain one leaves alike
  have alike : ∀ {o : Oper} {m : Md} {x : V} {J : CH}, (o, m) ∈ l → okOper tmps.size o = true → m ≠ .plain → drawOp P E tm H m o.op = .ok x J → Agree φ H J ∧ Rel P φ J w := by
    intro o m x J hm hok hne hr
    cases m with
    | plain => exact absurd rfl hne
    | quiet =>
      obtain ⟨J', g1, rfl⟩ := quiet_ok (show quietOp P E tm H o.op = .ok x J from hr)
      obtain ⟨φ', w', g2, g3⟩ := op_exists hC hD (freeze_rel h) htm hok g1
      obtain ⟨g4, g5⟩ := quiet_ext h g3
      have hag : Agree φ H (J'.thaw H.fz) := fun b k hb => by rw [thaw_get, g5 b (h.wf b k hb).1 (h.wf b k hb).2.1]
      exact ⟨hag, h.like' (by rw [thaw_n]; exact g2.nok) g4.before hag⟩
    | read ld =>
      obtain ⟨rfl, _⟩ := read_cong (K := H) hG h (fun _ _ _ => rfl) htm rfl (Bool.and_eq_true_iff.1 hok).2 (hI.read _ hm ld rfl) (show readOp P E ld tm H o.op = .ok x J from hr)
      exact ⟨fun _ _ _ => rfl, h⟩
    | pre i => cases (show R.ok (.ptr i 0) H = .ok x J from hr); exact ⟨fun _ _ _ => rfl, h⟩
    | lay i =>
      obtain ⟨J', g1, rfl⟩ := lay_ok (show layOp P E i tm H o.op = .ok x J from hr)
      obtain ⟨t, n, ps, e1⟩ := hI.lay _ hm i rfl
      have e1 : o.op = .buildSlice t n ps := e1
      obtain ⟨k1, k2, k3, k4⟩ := hI.pend _ hm i (.inr rfl)
      rw [e1] at g1
      obtain ⟨c, e, rfl, j1, j2, j3, _, _⟩ := buildSlice_parts (by rw [named_n]; exact k1) (show oBuildSlice P t n (evalParts tm ps.toList) (H.named i) = .ok x J' from g1)
      have hag : Agree φ H (J'.named H.n) := fun b k hb => by
        rw [named_get, j3 b (h.wf b k hb).1, named_n, named_get, if_neg]
        rintro rfl; rw [k4] at hb; cases hb
      exact ⟨hag, h.like' (by rw [named_n]; exact h.nok) (fun b hb => by rw [named_n]; exact hb) hag⟩
  cases hsw with
  | coldL e hc =>
    cases (show pm = .plain from e)
    obtain ⟨rfl, hK⟩ := evOp_cold hc (show evOp P E tm H po.op = .ok vp H₁ from h1)
    exact ⟨H₂, h2, hK H₂⟩
  | coldR e hc =>
    cases (show qm = .plain from e)
    obtain ⟨rfl, hK⟩ := evOp_cold hc (show evOp P E tm H₁ qo.op = .ok vq H₂ from h2)
    exact ⟨H, hK H, h1⟩
  | preL i e =>
    cases (show pm = .pre i from e)
    cases (show R.ok (.ptr i 0) H = .ok vp H₁ from h1)
    exact ⟨H₂, h2, rfl⟩
  | preR i e =>
    cases (show qm = .pre i from e)
    cases (show R.ok (.ptr i 0) H₁ = .ok vq H₂ from h2)
    exact ⟨H, rfl, h1⟩
  | readL ld e hne =>
    cases (show pm = .read ld from e)
    have h1' : readOp P E ld tm H po.op = .ok vp H₁ := h1
    have hro := hI.read _ hp ld rfl
    have hops := (Bool.and_eq_true_iff.1 hokp).2
    obtain ⟨rfl, _⟩ := read_cong (K := H) hG h (fun _ _ _ => rfl) htm rfl hops hro h1'
    obtain ⟨hag, _⟩ := alike hq hokq hne h2
    exact ⟨H₂, h2, (read_cong hG h hag htm rfl hops hro h1').2⟩
  | readR ld e hne =>
    cases (show qm = .read ld from e)
    have h2' : readOp P E ld tm H₁ qo.op = .ok vq H₂ := h2
    have hro := hI.read _ hq ld rfl
    have hops := (Bool.and_eq_true_iff.1 hokq).2
    obtain ⟨hag, hrel⟩ := alike hp hokp hne h1
    obtain ⟨rfl, h3⟩ := read_cong (K := H) hG hrel hag.symm htm rfl hops hro h2'
    exact ⟨H, h3, h1⟩
  | lays i j e1 e2 hne =>
    cases (show pm = .lay i from e1)
    cases (show qm = .lay j from e2)
    obtain ⟨J, g1, rfl⟩ := lay_ok (show layOp P E i tm H po.op = .ok vp H₁ from h1)
    obtain ⟨J₂, g2, rfl⟩ := lay_ok (show layOp P E j tm (J.named H.n) qo.op = .ok vq H₂ from h2)
    obtain ⟨t, n, ps, e3⟩ := hI.lay _ hp i rfl
    obtain ⟨t', n', ps', e4⟩ := hI.lay _ hq j rfl
    have e3 : po.op = .buildSlice t n ps := e3
    have e4 : qo.op = .buildSlice t' n' ps' := e4
    obtain ⟨hi, _⟩ := hI.pend _ hp i (.inr rfl)
    obtain ⟨hj, _⟩ := hI.pend _ hq j (.inr rfl)
    rw [e3] at g1
    rw [e4] at g2
    have g1 : oBuildSlice P t n (evalParts tm ps.toList) (H.named i) = .ok vp J := g1
    have g2 : oBuildSlice P t' n' (evalParts tm ps'.toList) ((J.named H.n).named j) = .ok vq J₂ := g2
    obtain ⟨c, e, hv, _, _, _, hall, _⟩ := buildSlice_parts (by rw [named_n]; exact hi) g1
    obtain ⟨c', e', hv', _, _, _, hall', _⟩ := buildSlice_parts (by rw [named_n]; exact hj) g2
    rw [named_n] at hv hv'
    subst hv; subst hv'
    rw [hall] at g1
    rw [hall'] at g2
    cases i with
    | over => exact hi.elim
    | mk ik ia ib ic id ie =>
      cases j with
      | over => exact hj.elim
      | mk jk ja jb jc jd je =>
        cases H with
        | mk hn hf ht =>
          cases g1
          cases g2
          have hdig : ¬ (ia = ja ∧ ib = jb ∧ ic = jc ∧ id = jd ∧ ie = je) := by
            rintro ⟨rfl, rfl, rfl, rfl, rfl⟩
            apply hne
            have : ik = jk := by simp only [Id.wf] at hi hj; omega
            rw [this]
          refine ⟨.mk hn hf (Tr.put (some (.cells c' e' 0 [])) ht ja jb jc jd je), ?_, ?_⟩
          · show layOp P E _ tm _ qo.op = _
            rw [e4]
            show R.rec (motive := fun _ => R) .no (fun v K => .ok v (K.named hn)) (oBuildSlice P t' n' (evalParts tm ps'.toList) (CH.mk (.mk jk ja jb jc jd je) hf ht)) = _
            rw [hall']; rfl
          · show layOp P E _ tm _ po.op = _
            rw [e3]
            show R.rec (motive := fun _ => R) .no (fun v K => .ok v (K.named hn)) (oBuildSlice P t n (evalParts tm ps.toList) (CH.mk (.mk ik ia ib ic id ie) hf (Tr.put (some (.cells c' e' 0 [])) ht ja jb jc jd je))) = _
            rw [hall]
            show R.ok _ (CH.mk hn hf (Tr.put (some (.cells c e 0 [])) (Tr.put (some (.cells c' e' 0 [])) ht ja jb jc jd je) ia ib ic id ie)) = R.ok _ (CH.mk hn hf (Tr.put (some (.cells c' e' 0 [])) (Tr.put (some (.cells c e 0 [])) ht ia ib ic id ie) ja jb jc jd je))
            rw [Tr.put_comm _ _ _ _ _ _ _ _ _ _ _ _ _ hdig]
  | places t a t' b y b₁ o₁ b₂ o₂ e1 e2 e3 e4 ha hb hne hnd =>
    cases (show pm = .read true from e2)
    cases (show qm = .plain from e4)
    have e1 : po.op = .load t (.tmp a) := e1
    have e3 : qo.op = .store t' (.tmp b) y := e3
    have h1' : readOp P E true tm H po.op = .ok vp H₁ := h1
    obtain ⟨rfl, _⟩ := read_cong (K := H) hG h (fun _ _ _ => rfl) htm rfl (Bool.and_eq_true_iff.1 hokp).2 (hI.read _ hp true rfl) h1'
    refine ⟨H₂, h2, ?_⟩
    have hopA : VR φ (tm.get a) _ := evalO_rel (o := .tmp a) (a := ⟨tmps, []⟩) htm (List.all_eq_true.1 (Bool.and_eq_true_iff.1 hokp).2 _ (by show Operand.tmp a ∈ po.op.operands.toList; rw [e1]; simp [Op.operands]))
    have hopB : VR φ (tm.get b) _ := evalO_rel (o := .tmp b) (a := ⟨tmps, []⟩) htm (List.all_eq_true.1 (Bool.and_eq_true_iff.1 hokq).2 _ (by show Operand.tmp b ∈ qo.op.operands.toList; rw [e3]; simp [Op.operands]))
    rw [ha] at hopA
    rw [hb] at hopB
    have hst : storeV P t' (evalO tm y) H₁ b₂ o₂ = some H₂ := by
      have h2 : evOp P E tm H₁ qo.op = .ok vq H₂ := h2
      rw [e3] at h2
      have h2 : onPtr .no (oStore P t' (evalO tm y) H₁) (tm.get b) = .ok vq H₂ := h2
      rw [hb] at h2
      have h2 : skip1 (storeV P t' (evalO tm y) H₁ b₂ o₂) = .ok vq H₂ := h2
      cases hq : storeV P t' (evalO tm y) H₁ b₂ o₂ with
      | none => rw [hq] at h2; cases h2
      | some z => rw [hq] at h2; cases h2; rfl
    have hget : H₂.get b₁ = H₁.get b₁ := by
      generalize Act.eval _ (Operand.tmp b) = xb at hopB
      generalize Act.eval _ (Operand.tmp a) = xa at hopA
      cases hopB with
      | ptr _ _ kb hkb =>
        cases hopA with
        | ptr _ _ ka hka =>
          rcases store_get h hkb hst b₁ (h.wf b₁ ka hka).1 hne with g | g
          · exact g
          · exact absurd g hnd
    show readOp P E true tm H₂ po.op = .ok vp H₂
    unfold readOp at h1' ⊢
    rw [e1] at h1' ⊢
    have h1' : R.rec (motive := fun _ => R) .no (fun v _ => R.ok v H₁) (onPtr R.no (oLoad P t H₁) (tm.get a)) = .ok vp H₁ := h1'
    show R.rec (motive := fun _ => R) .no (fun v _ => R.ok v H₂) (onPtr R.no (oLoad P t H₂) (tm.get a)) = .ok vp H₂
    rw [ha] at h1' ⊢
    have h1' : R.rec (motive := fun _ => R) .no (fun v _ => R.ok v H₁) (pure1 H₁ (loadV P t H₁ b₁ o₁)) = .ok vp H₁ := h1'
    show R.rec (motive := fun _ => R) .no (fun v _ => R.ok v H₂) (pure1 H₂ (loadV P t H₂ b₁ o₁)) = .ok vp H₂
    rw [loadV_get hget]
    cases hq : loadV P t H₁ b₁ o₁ with
    | none => rw [hq] at h1'; cases h1'
    | some z => rw [hq] at h1'; cases h1'; rfl
end Vam
