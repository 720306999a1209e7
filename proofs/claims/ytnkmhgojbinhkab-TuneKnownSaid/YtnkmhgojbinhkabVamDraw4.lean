/- The plain machine (VamDraw4): part of a proof by a machine of plain values that is proved right. -/
import Derived.Test.YtnkmhgojbinhkabVamDraw3
namespace Vam
set_option linter.unusedVariables false
set_option linter.unusedSimpArgs false
open Go
variable {P : Program} {φ : Phi} {H H' K : CH} {w : World} {v : V} {E : Ev}

/-! ## What holds between two operations of a region whose order is open -/

def Named (p : Oper × Md) (i : Id) : Prop := p.2 = .pre i ∨ p.2 = .lay i

structure DInv (P : Program) (φ₀ : Phi) (H₀ : CH) (w₀ : World) (l : List (Oper × Md)) (φ : Phi) (H : CH) (w : World) : Prop where
  rel : Rel P φ H w
  ext : Ext φ₀ H₀ w₀ φ H w
  pend : ∀ p ∈ l, ∀ i, Named p i → i.wf ∧ Before i H.n ∧ ¬ Before i H₀.n ∧ φ i = none
  pre : ∀ p ∈ l, ∀ i, p.2 = .pre i → ∃ e z, p.1.op = .alloc e ∧ zeroL P e = some z ∧ H.get i = some (.cells z e 0 [])
  lay : ∀ p ∈ l, ∀ i, p.2 = .lay i → ∃ t n ps, p.1.op = .buildSlice t n ps
  read : ∀ p ∈ l, ∀ ld, p.2 = .read ld → ReadOp P ld p.1.op

/-- what an operation leaves for those that are still to come -/
structure Keeps (p : Oper × Md) (l' : List (Oper × Md)) : Prop where
  ids : ∀ q ∈ l', ∀ i j, Named p i → Named q j → i ≠ j
  pre : ∀ q ∈ l', ∀ i, q.2 = .pre i → p.2 ≠ .plain ∨ heapy p.1.op = false

theorem DInv.less {φ₀ : Phi} {H₀ : CH} {w₀ : World} {l l' : List (Oper × Md)} (h : DInv P φ₀ H₀ w₀ l φ H w) (hs : ∀ q ∈ l', q ∈ l) : DInv P φ₀ H₀ w₀ l' φ H w :=
  ⟨h.rel, h.ext, fun p hp => h.pend p (hs p hp), fun p hp => h.pre p (hs p hp), fun p hp => h.lay p (hs p hp), fun p hp => h.read p (hs p hp)⟩

/-- a step that keeps the names laid aside, and the blocks made ahead -/
theorem DInv.step {φ₀ : Phi} {H₀ : CH} {w₀ : World} {l : List (Oper × Md)} (h : DInv P φ₀ H₀ w₀ l φ H w) {φ' : Phi} {w' : World} (h1 : Rel P φ' H' w') (h2 : Ext φ H w φ' H' w')
    (hb : Rel P φ₀ H₀ w₀) (hk : ∀ p ∈ l, ∀ i, p.2 = .pre i → H'.get i = H.get i) : DInv P φ₀ H₀ w₀ l φ' H' w' := by
  refine ⟨h1, h.ext.trans hb h2, ?_, ?_, h.lay, h.read⟩
  · intro p hp i hi
    obtain ⟨q1, q2, q3, q4⟩ := h.pend p hp i hi
    refine ⟨q1, h2.before i q2, q3, ?_⟩
    cases hx : φ' i with
    | none => rfl
    | some k => exact absurd q2 (h2.newId i k hx q4)
  · intro p hp i hi
    obtain ⟨e, z, q1, q2, q3⟩ := h.pre p hp i hi
    exact ⟨e, z, q1, q2, by rw [hk p hp i hi]; exact q3⟩

/-- what an operation leaves of the blocks that are named -/
def Later (φ : Phi) (H H' : CH) : Prop := H'.fz = H.fz ∧ ∀ b k, φ b = some k → (b.num < H.fz → H'.get b = H.get b) ∧ (¬ WrAt H b → ¬ WrAt H' b)
theorem Later.of_ext (h : Rel P φ H w) {φ' : Phi} {w' : World} (k : Ext φ H w φ' H' w') : Later φ H H' :=
  ⟨k.fz, fun b l hb => ⟨fun hf => k.keep b (h.wf b l hb).2.1 (h.wf b l hb).1 hf, fun hw => k.ro b (h.wf b l hb).2.1 (h.wf b l hb).1 hw⟩⟩
theorem Later.of_agree (hf : H'.fz = H.fz) (ha : Agree φ H H') : Later φ H H' := by
  refine ⟨hf, fun b l hb => ⟨fun _ => ha b l hb, ?_⟩⟩
  rintro hw ⟨h1, x, h2, h3⟩
  rw [ha b l hb] at h2
  exact hw ⟨by rw [← hf]; exact h1, x, h2, h3⟩
theorem Later.trans {φ₁ : Phi} {H₁ : CH} (h : Later φ H H₁) (hle : φ.le φ₁) (k : Later φ₁ H₁ H') : Later φ H H' :=
  ⟨k.1.trans h.1, fun b l hb => ⟨fun hf => ((k.2 b l (hle b l hb)).1 (by rw [h.1]; exact hf)).trans ((h.2 b l hb).1 hf), fun hw => (k.2 b l (hle b l hb)).2 ((h.2 b l hb).2 hw)⟩⟩

theorem wp_of_run {o : Oper} {a : Act} {next : Act → World → Prop} {Q : Exit → Act → World → Prop} {r : Option Nat} {x : Value} {w' : World} (hd : ∀ c, o.op ≠ .defer c) (ho : (execOp a.eval o).run P w = .ok (.value x) w')
    (hnext : next (a.put o.dst x) w') : o.wpIn (wideAt r) 0 P a w next Q := by
  refine ⟨fun _ _ => trivial, ?_⟩
  show o.uponIn (wideAt r) 0 P a next Q ((o.semAt r a.eval).run P w)
  rw [Oper.semAt_eq r a.eval o hd, ho]
  exact hnext

/-- ONE OPERATION OF SUCH A REGION. -/
theorem draw_wp (hC : SoundCall P E) (hD : SoundCode P E) (hG : CongPure P E) {φ₀ : Phi} {H₀ : CH} {w₀ : World} {l l' : List (Oper × Md)} (hb : Rel P φ₀ H₀ w₀) (hI : DInv P φ₀ H₀ w₀ l φ H w) {p : Oper × Md} (hp : p ∈ l) (hs : ∀ q ∈ l', q ∈ l) (hk : Keeps p l')
    {tm : TT} {a : Act} (htm : TmR φ tm a.tmps) (hok : okOper a.tmps.size p.1 = true) (hr : drawOp P E tm H p.2 p.1.op = .ok v H') {next : Act → World → Prop} {Q : Exit → Act → World → Prop} {r : Option Nat}
    (hnext : ∀ φ' w' x, DInv P φ₀ H₀ w₀ l' φ' H' w' → φ.le φ' → Later φ H H' → VR φ' v x → next (a.put p.1.dst x) w') : p.1.wpIn (wideAt r) 0 P a w next Q := by
  have h := hI.rel
  have hI' := hI.less hs
  obtain ⟨o, md⟩ := p
  cases md with
  | plain =>
    have hr : evOp P E tm H o.op = .ok v H' := hr
    refine op_wp hC hD h htm hok hr (fun φ' w' x h1 h2 h3 => hnext φ' w' x (hI'.step h1 h2 hb ?_) h2.le (.of_ext h h2) h3)
    intro q hq i hi
    rcases hk.pre q hq i hi with h4 | h4
    · exact absurd rfl h4
    · rw [(evOp_cold h4 hr).1]
  | quiet =>
    obtain ⟨H₁, h1, rfl⟩ := quiet_ok (show quietOp P E tm H o.op = .ok v H' from hr)
    refine op_wp hC hD (freeze_rel h) htm hok h1 (fun φ' w' x k1 k2 k3 => ?_)
    obtain ⟨k4, k5⟩ := quiet_ext h k2
    refine hnext φ' w' x (hI'.step (thaw_rel k1 _) k4 hb ?_) k4.le (.of_ext h k4) k3
    intro q hq i hi
    obtain ⟨g1, g2, _⟩ := hI'.pend q hq i (.inl hi)
    rw [thaw_get, k5 i g1 g2]
  | read ld =>
    have hro := hI.read _ hp ld rfl
    have hr : readOp P E ld tm H o.op = .ok v H' := hr
    have hall : o.op.operands.toList.all (okO a.tmps.size) = true := (Bool.and_eq_true_iff.1 hok).2
    unfold readOp at hr
    cases q : evOp P E tm H o.op with
    | no => rw [q] at hr; cases hr
    | ok x J =>
      rw [q] at hr
      obtain ⟨hq, hr1⟩ := cond_ok (show cond (cond ld true (flatV x)) (R.ok x H) .no = .ok v H' from hr) R.ok_ne
      cases hr1
      have hJ := read_heap hG h htm hall hro q hq
      subst hJ
      exact op_wp hC hD h htm hok q (fun φ' w' x h1 h2 h3 => hnext φ' w' x (hI'.step h1 h2 hb (fun _ _ _ _ => rfl)) h2.le (.of_ext h h2) h3)
  | pre i =>
    cases (show R.ok (.ptr i 0) H = .ok v H' from hr)
    obtain ⟨e, z, e1, e2, e3⟩ := hI.pre _ hp i rfl
    obtain ⟨g1, g2, g3, g4⟩ := hI.pend _ hp i (.inl rfl)
    obtain ⟨zv, z1, z2⟩ := run_zero e2 w
    have e3 : H.get i = some (.cells z e 0 []) := e3
    have hset : ∀ j : Id, j.wf → H.get j = if j = i then some (.cells z e 0 []) else H.get j := by
      intro j _; by_cases hj : j = i
      · rw [if_pos hj, hj, e3]
      · rw [if_neg hj]
    have e1 : o.op = .alloc e := e1
    refine wp_of_run (x := .pointer (some ⟨w.heap.size, 0, none⟩)) (w' := { w with heap := w.heap.push (.cells zv.cells e) }) (fun c hc => by rw [e1] at hc; cases hc) (by simp only [execOp, e1]; simp [Instr.alloc, z1, run_newVar]) ?_
    refine hnext (φ.with i ⟨w.heap.size, 0, zv.cells.size⟩) _ _ ⟨?_, ?_, ?_, ?_, hI'.lay, hI'.read⟩ (Phi.le_with _ g4) (.of_agree rfl (fun _ _ _ => rfl)) (.ptr i 0 _ (Phi.with_self _ _ _))
    · refine h.put g1 g2 g4 rfl hset ?_
      refine .inr ⟨⟨zv.cells, e, rfl, by simp, ?_, zv.cells.toList, z2 _, fun i v hv => by simpa using hv⟩, by simp⟩
      rw [(z2 (φ.with i ⟨w.heap.size, 0, zv.cells.size⟩)).len]; simp
    · exact hI.ext.put g3 g4 rfl rfl hset
    · intro q hq j hj
      obtain ⟨q1, q2, q3, q4⟩ := hI'.pend q hq j hj
      exact ⟨q1, q2, q3, by rw [Phi.with_ne _ (Ne.symm (hk.ids q hq i j (.inl rfl) hj))]; exact q4⟩
    · exact hI'.pre
  | lay i =>
    obtain ⟨J, h1, rfl⟩ := lay_ok (show layOp P E i tm H o.op = .ok v H' from hr)
    obtain ⟨t, n, ps, e1⟩ := hI.lay _ hp i rfl
    obtain ⟨g1, g2, g3, g4⟩ := hI.pend _ hp i (.inr rfl)
    have e1 : o.op = .buildSlice t n ps := e1
    rw [e1] at h1
    have h1 : oBuildSlice P t n (evalParts tm ps.toList) (H.named i) = .ok v J := h1
    obtain ⟨c, e, rfl, j1, j2, j3, _, j4⟩ := buildSlice_parts (by rw [named_n]; exact g1) h1
    rw [named_n] at j1 j3
    have hall := (Bool.and_eq_true_iff.1 hok).2
    have hparts : PartsR φ (evalParts tm ps.toList) (ps.toList.map fun p => (p.1, a.eval p.2)) := evalParts_rel htm (by
      rw [show (o, Md.lay i).1 = o from rfl, e1] at hall; simpa [Op.operands, List.all_eq_true, Function.comp_def] using hall)
    obtain ⟨cs, c1, c2⟩ := j4 φ w _ hparts
    rw [← parts_map] at c1
    have hset : ∀ j : Id, j.wf → (J.named H.n).get j = if j = i then some (.cells c e 0 []) else H.get j := by
      intro j hj
      rw [named_get, j3 j hj, named_get]
    refine wp_of_run (x := .slice (some ⟨w.heap.size, 0, none⟩) n n) (w' := { w with heap := w.heap.push (.cells cs e) }) (fun c hc => by rw [e1] at hc; cases hc) (by simp only [execOp, e1]; simp [c1]) ?_
    refine hnext (φ.with i ⟨w.heap.size, 0, cs.size⟩) _ _ ⟨?_, ?_, ?_, ?_, hI'.lay, hI'.read⟩ (Phi.le_with _ g4) (.of_agree (by rw [named_fz, j2, named_fz]) (fun b k hb => by
      rw [hset b (h.wf b k hb).1, if_neg]; rintro rfl; rw [g4] at hb; cases hb)) ?_
    · refine h.put g1 g2 g4 (named_n _ _) hset ?_
      refine .inr ⟨⟨cs, e, rfl, by simp, ?_, cs.toList, c2.mono (Phi.le_with _ g4), fun i v hv => by simpa using hv⟩, by simp⟩
      rw [LR.len c2]; simp
    · exact hI.ext.put g3 g4 (named_n _ _) (by rw [named_fz, j2, named_fz]) hset
    · intro q hq j hj
      obtain ⟨q1, q2, q3, q4⟩ := hI'.pend q hq j hj
      exact ⟨q1, by rw [named_n]; exact q2, q3, by rw [Phi.with_ne _ (Ne.symm (hk.ids q hq i j (.inr rfl) hj))]; exact q4⟩
    · intro q hq j hj
      obtain ⟨e', z, q1, q2, q3⟩ := hI'.pre q hq j hj
      refine ⟨e', z, q1, q2, ?_⟩
      rw [hset j (hI'.pend q hq j (.inl hj)).1, if_neg (Ne.symm (hk.ids q hq i j (.inr rfl) (.inl hj)))]; exact q3
    · rw [named_n]
      exact .slice i 0 n _ _ n _ (Phi.with_self _ _ _) ⟨by rw [capN_X]; omega, fun _ => by rw [capN_X], fun e => by rw [capE_X] at e; cases e⟩
end Vam
