/- The plain machine (VamWrite): part of a proof by a machine of plain values that is proved right. -/
import Derived.Test.YtnkmhgojbinhkabVamStore
namespace Vam
set_option linter.unusedVariables false
set_option linter.unusedSimpArgs false
open Go
variable {P : Program} {φ : Phi} {H H' : CH} {w : World}

theorem kill_nil (H : CH) : kill [] H = some H := rfl
theorem kill_cons (b : Id) (bs : List Id) (H : CH) : kill (b :: bs) H = opt none (kill bs) (opt (some H) (H.set b) (onCells none killS (H.get b))) := rfl

/-- a block that is left as it was, or dead -/
theorem kill_some : ∀ {bs : List Id} {H H' : CH}, kill bs H = some H' → (∀ b ∈ bs, b.wf) →
    H'.n = H.n ∧ H'.fz = H.fz ∧ ∀ j : Id, j.wf →
      (H'.get j = H.get j ∧ (j ∈ bs → ∀ cs e st sh, H.get j = some (.cells cs e st sh) → st = 2)) ∨
      (j ∈ bs ∧ H.fz ≤ j.num ∧ ∃ cs e sh, H'.get j = some (.cells cs e 2 sh)) := by
  intro bs
  induction bs with
  | nil => intro H H' h _; rw [kill_nil] at h; cases h; exact ⟨rfl, rfl, fun j _ => .inl ⟨rfl, by simp⟩⟩
  | cons b bs ih =>
    intro H H' h hw
    rw [kill_cons] at h
    obtain ⟨H₁, h1, h2⟩ := opt_ok (no := none) h (by simp)
    have hbs : ∀ c ∈ bs, c.wf := fun c hc => hw c (List.mem_cons_of_mem _ hc)
    obtain ⟨e1, e2, e3⟩ := ih h2 hbs
    cases hk : onCells none killS (H.get b) with
    | none =>
      rw [hk] at h1
      have : H = H₁ := by simpa [opt] using h1
      subst this
      refine ⟨e1, e2, fun j hj => ?_⟩
      rcases e3 j hj with ⟨h3, h4⟩ | ⟨h3, h4⟩
      · refine .inl ⟨h3, fun hm cs e st sh hg => ?_⟩
        rcases List.mem_cons.1 hm with rfl | hm
        · rw [hg] at hk
          change cond (Nat.beq st 2) none (killS cs e st sh) = none at hk
          cases hb : Nat.beq st 2 with
          | true => exact beq_eq hb
          | false => rw [hb] at hk; cases hk
        · exact h4 hm cs e st sh hg
      · exact .inr ⟨List.mem_cons_of_mem _ h3, h4⟩
    | some x =>
      rw [hk] at h1
      change H.set b x = some H₁ at h1
      have hbw := hw b (List.mem_cons_self ..)
      obtain ⟨s1, s2, s3, s4⟩ := CH.set_some h1 hbw
      have hx : ∃ cs e sh, x = .cells cs e 2 sh := by
        rcases onCells_some hk with ⟨cs, e, st, sh, _, _, h5⟩ | ⟨cs, _, h5⟩
        · cases h5; exact ⟨_, _, _, rfl⟩
        · cases h5; exact ⟨_, _, _, rfl⟩
      obtain ⟨cs, e, sh, rfl⟩ := hx
      refine ⟨e1.trans s1, e2.trans s2, fun j hj => ?_⟩
      by_cases ej : j = b
      · subst ej
        right
        refine ⟨List.mem_cons_self .., s3, ?_⟩
        rcases e3 j hj with ⟨h3, _⟩ | ⟨_, _, h4⟩
        · exact ⟨cs, e, sh, by rw [h3, s4 j hj, if_pos rfl]⟩
        · exact h4
      · rcases e3 j hj with ⟨h3, h4⟩ | ⟨h3, h4, h5⟩
        · refine .inl ⟨by rw [h3, s4 j hj, if_neg ej], fun hm cs e st sh hg => ?_⟩
          rcases List.mem_cons.1 hm with rfl | hm
          · exact absurd rfl ej
          · exact h4 hm cs e st sh (by rw [s4 j hj, if_neg ej]; exact hg)
        · exact .inr ⟨List.mem_cons_of_mem _ h3, by rw [← s2]; exact h4, h5⟩

theorem not_wr_dead {x : Blk} (h : Dead x) : ¬ Wr x := by
  cases x with
  | cells cs e st sh => intro hw; have h1 : st = 2 := h; have h2 : st = 0 := hw; omega
  | _ => exact h.elim

theorem writeCells_some {b : Id} {off : Nat} {vs : V} (h : writeCells H b off vs = some H') :
    ∃ cs e sh cs' H₁, H.get b = some (.cells cs e 0 sh) ∧ allOne vs = true ∧ putV cs off vs = some cs' ∧ H.set b (.cells cs' e 0 []) = some H₁ ∧ kill sh H₁ = some H' := by
  rcases onCells_some h with ⟨cs, e, st, sh, h1, h2, h3⟩ | ⟨cs, h1, h3⟩
  · obtain ⟨h4, h5⟩ := cond_ok h3 (by simp)
    obtain ⟨h6, h7⟩ := cond_ok h5 (by simp)
    obtain ⟨cs', h8, h9⟩ := opt_ok (no := none) h7 (by simp)
    obtain ⟨H₁, h10, h11⟩ := opt_ok (no := none) h9 (by simp)
    obtain rfl := beq_eq h4
    exact ⟨cs, e, sh, cs', H₁, h1, h6, h8, h10, h11⟩
  · cases h3

/-- A WRITE. -/
theorem Rel.write (h : Rel P φ H w) {b : Id} {k : Loc} (hb : φ b = some k) {off : Nat} {vs : V} {ys : List Value} (hv : LR φ vs ys)
    (hr : writeCells H b off vs = some H') :
    ∃ arr el, w.heap[k.r]? = some (.cells arr el (0, 0)) ∧ k.o + off + ys.length ≤ arr.size ∧ (∀ v ∈ ys, v.oneCell' = true) ∧
      Rel P φ H' { w with heap := w.heap.setIfInBounds k.r (.cells (putArr arr (k.o + off) ys) el (0, 0)) } ∧
      Ext φ H w φ H' { w with heap := w.heap.setIfInBounds k.r (.cells (putArr arr (k.o + off) ys) el (0, 0)) } := by
  obtain ⟨cs, e, sh, cs', H₁, g1, g2, g3, g4, g5⟩ := writeCells_some hr
  obtain ⟨hbw, hbn, hbr⟩ := h.wf b k hb
  obtain ⟨x, hx, hbl⟩ := h.blk b k hb
  rw [g1] at hx; cases hx
  rcases hbl with hbl | ⟨⟨arr, el, a1, a2, a3, us, a4, a5⟩, a6⟩
  · cases hbl
  obtain ⟨p1, p2, p3⟩ := putV_rel a4 hv g3
  have hlen := LR.len a4
  obtain ⟨s1, s2, s3, s4⟩ := CH.set_some g4 hbw
  obtain ⟨k1, k2, k3⟩ := kill_some g5 a6
  have hsize : k.o + off + ys.length ≤ arr.size := by omega
  refine ⟨arr, el, a1, hsize, allOne_rel hv g2, ?_, ?_⟩
  · -- each block behind the write: dead, or as it was, or the one that was written
    have cls : ∀ c : Id, c.wf → (∃ y, H'.get c = some y ∧ Dead y) ∨ (c ≠ b ∧ H'.get c = H.get c ∧ (c ∈ sh → ∀ cs e st sh', H.get c = some (.cells cs e st sh') → st = 2)) ∨
        (c = b ∧ H'.get c = some (.cells cs' e 0 [])) := by
      intro c hc
      rcases k3 c hc with ⟨h3, h4⟩ | ⟨_, _, cs₂, e₂, sh₂, h5⟩
      · by_cases ec : c = b
        · subst ec; exact .inr (.inr ⟨rfl, by rw [h3, s4 c hc, if_pos rfl]⟩)
        · have e5 : H₁.get c = H.get c := by rw [s4 c hc, if_neg ec]
          exact .inr (.inl ⟨ec, h3.trans e5, fun hm cs e st sh' hg => h4 hm cs e st sh' (e5.trans hg)⟩)
      · exact .inl ⟨_, h5, rfl⟩
    have hnewblk : BlkR P φ (.cells cs' e 0 []) k (some (.cells (putArr arr (k.o + off) ys) el (0, 0))) := by
      refine .inr ⟨⟨_, el, rfl, by rw [putArr_size]; exact a2, by rw [p3]; exact a3, putL us off ys, p2, ?_⟩, by simp⟩
      intro i v hi
      rw [putArr_get _ _ _ _ hsize]
      simp only [putL] at hi
      by_cases h1 : i < off
      · rw [if_neg (by omega)]
        apply a5
        rw [List.append_assoc, List.getElem?_append_left (by simp; omega), List.getElem?_take, if_pos h1] at hi
        exact hi
      · by_cases h2 : i < off + ys.length
        · rw [if_pos (by omega)]
          rw [List.append_assoc, List.getElem?_append_right (by simp; omega), List.getElem?_append_left (by simp; omega)] at hi
          rw [← hi]; congr 1; simp; omega
        · rw [if_neg (by omega)]
          apply a5
          rw [List.getElem?_append_right (by simp; omega), List.getElem?_drop] at hi
          rw [← hi]; congr 1; simp; omega
    -- a block in the same real block is dead behind the write
    have same : ∀ c l, φ c = some l → c ≠ b → l.r = k.r → ∃ y, H'.get c = some y ∧ Dead y := by
      intro c l hc hne hlr
      obtain ⟨hcw, _, _⟩ := h.wf c l hc
      obtain ⟨z, hz, _⟩ := h.blk c l hc
      rcases cls c hcw with hd | ⟨_, he, hm⟩ | ⟨hcb, _⟩
      · exact hd
      · refine ⟨z, he.trans hz, ?_⟩
        rcases h.sep b c k l _ _ hb hc (Ne.symm hne) hlr.symm g1 hz with hd | hd | ⟨hd, _⟩ | ⟨_, _, _, _, _, _, _, _, hd, _⟩ | ⟨cs₁, e₁, sh₁, cs₂, e₂, sh₂, q1, q2, q3, _⟩
        · cases hd
        · exact hd
        · exact absurd rfl hd
        · cases hd
        · cases q1
          have := hm q2 _ _ _ _ (hz.trans (by rw [q3]))
          cases this
      · exact absurd hcb hne
    refine ⟨?_, ?_, ?_, ?_⟩
    · rw [k1, s1]; exact h.nok
    · intro c l hc
      obtain ⟨h1, h2, h3⟩ := h.wf c l hc
      exact ⟨h1, by rw [k1, s1]; exact h2, by simpa using h3⟩
    · intro c l hc
      obtain ⟨hcw, _, hcr⟩ := h.wf c l hc
      by_cases ec : c = b
      · subst ec
        rw [hb] at hc; cases hc
        rcases cls c hcw with ⟨y, h1, h2⟩ | ⟨h1, _⟩ | ⟨_, h1⟩
        · refine ⟨y, h1, ?_⟩
          cases y with
          | cells => exact .inl h2
          | _ => exact h2.elim
        · exact absurd rfl h1
        · exact ⟨_, h1, by
            rw [Array.getElem?_setIfInBounds, if_pos rfl, if_pos hcr]
            exact hnewblk⟩
      · by_cases er : l.r = k.r
        · obtain ⟨y, h1, h2⟩ := same c l hc ec er
          refine ⟨y, h1, ?_⟩
          cases y with
          | cells => exact .inl h2
          | _ => exact h2.elim
        · have hh : (w.heap.setIfInBounds k.r (.cells (putArr arr (k.o + off) ys) el (0, 0)))[l.r]? = w.heap[l.r]? := Array.getElem?_setIfInBounds_ne (by omega)
          rcases cls c hcw with ⟨y, h1, h2⟩ | ⟨_, h1, _⟩ | ⟨h1, _⟩
          · refine ⟨y, h1, ?_⟩
            cases y with
            | cells => exact .inl h2
            | _ => exact h2.elim
          · obtain ⟨y, h2, h3⟩ := h.blk c l hc
            exact ⟨y, h1.trans h2, by show BlkR P φ y l ((w.heap.setIfInBounds k.r _)[l.r]?); rw [hh]; exact h3⟩
          · exact absurd h1 ec
    · intro c d l m x y hc hd hne hlr hx hy
      obtain ⟨hcw, _, _⟩ := h.wf c l hc
      obtain ⟨hdw, _, _⟩ := h.wf d m hd
      by_cases ec : c = b
      · subst ec
        rw [hb] at hc; cases hc
        obtain ⟨y', h1, h2⟩ := same d m hd (Ne.symm hne) hlr.symm
        rw [hy] at h1; cases h1
        exact .inr (.inl h2)
      · by_cases ed : d = b
        · subst ed
          rw [hb] at hd; cases hd
          obtain ⟨y', h1, h2⟩ := same c l hc hne hlr
          rw [hx] at h1; cases h1
          exact .inl h2
        · rcases cls c hcw with ⟨x', h1, h2⟩ | ⟨_, h1, _⟩ | ⟨h1, _⟩
          · rw [hx] at h1; cases h1; exact .inl h2
          · rcases cls d hdw with ⟨y', h3, h4⟩ | ⟨_, h3, _⟩ | ⟨h3, _⟩
            · rw [hy] at h3; cases h3; exact .inr (.inl h4)
            · exact h.sep c d l m x y hc hd hne hlr (h1.symm.trans hx) (h3.symm.trans hy)
            · exact absurd h3 ed
          · exact absurd h1 ec
  · have hwr : WrAt H b := ⟨s3, _, g1, rfl⟩
    refine ⟨Phi.le_refl φ, k2.trans s2, ?_, ?_, ?_, ?_, ?_, ?_, by simp, rfl, rfl, rfl, frozen_set w a1 rfl rfl⟩
    · intro c l h1 h2; rw [h2] at h1; cases h1
    · intro c hc; rw [k1, s1]; exact hc
    · intro c l h1 h2; rw [h2] at h1; cases h1
    · intro r _ hall
      exact Array.getElem?_setIfInBounds_ne (fun e => hall b k hb e hwr)
    · rintro c hcb hcw hn ⟨h1, y, h2, h3⟩
      rcases k3 c hcw with ⟨h4, _⟩ | ⟨_, _, cs₂, e₂, sh₂, h5⟩
      · by_cases ec : c = b
        · subst ec; exact hn hwr
        · rw [h4, s4 c hcw, if_neg ec] at h2
          exact hn ⟨by rw [← s2, ← k2]; exact h1, y, h2, h3⟩
      · rw [h5] at h2; cases h2; cases h3
    · intro c hcb hcw hf
      rcases k3 c hcw with ⟨h4, _⟩ | ⟨_, h5, _⟩
      · rw [h4, s4 c hcw, if_neg]
        rintro rfl; omega
      · rw [s2] at h5; omega
end Vam
