/- The plain machine (VamApp): part of a proof by a machine of plain values that is proved right. -/
import Derived.Test.YtnkmhgojbinhkabVamMap
import Derived.Laws.Append
namespace Vam
set_option linter.unusedVariables false
set_option linter.unusedSimpArgs false
open Go
variable {P : Program} {φ : Phi} {H H' : CH} {w : World} {v : V}

/-! ## Append: what the model does -/

theorem run_append_in {t t2 ty e : TypeId} (ht : P.underlying t = some (.slice e)) (hu : (∃ e2, P.underlying t2 = some (.slice e2)) ∨ P.underlying t2 = some .string) {size : Nat}
    (hs : (Go.sizeOf e).run P w = Result.ok size w) {a : Addr} {sLen sCap n : Nat} {x : Value} (hn : (Builtin.lenOf x).run P w = .ok n w) {new : Array Value}
    (hf : (Builtin.firstCells size n x).run P w = .ok new w) (hle : sLen + n ≤ sCap) {args : Array Value} (a0 : args[0]? = some (.slice (some a) sLen sCap)) (a1 : args[1]? = some x) {w' : World} (hst : (storeCells (a.add (sLen * size)) new.toList).run P w = .ok () w') :
    (Builtin.append_ #[t, t2] ty args).run P w = .ok (.slice (some a) (sLen + n) sCap) w' := by
  rcases hu with ⟨e2, hu⟩ | hu <;> simp [Builtin.append_, a0, a1, run_underlying ht, run_underlying hu, hs, hn, hf, hle, hst]

theorem run_append_nilin {t t2 ty e : TypeId} (ht : P.underlying t = some (.slice e)) (hu : (∃ e2, P.underlying t2 = some (.slice e2)) ∨ P.underlying t2 = some .string) {size : Nat}
    (hs : (Go.sizeOf e).run P w = Result.ok size w) {x : Value} (hn : (Builtin.lenOf x).run P w = .ok 0 w) {new : Array Value}
    (hf : (Builtin.firstCells size 0 x).run P w = .ok new w) {args : Array Value} (a0 : args[0]? = some (.slice none 0 0)) (a1 : args[1]? = some x) :
    (Builtin.append_ #[t, t2] ty args).run P w = .ok (.slice none 0 0) w := by
  rcases hu with ⟨e2, hu⟩ | hu <;> simp [Builtin.append_, a0, a1, run_underlying ht, run_underlying hu, hs, hn, hf]

theorem run_append_fresh {t t2 ty e : TypeId} (ht : P.underlying t = some (.slice e)) (hu : (∃ e2, P.underlying t2 = some (.slice e2)) ∨ P.underlying t2 = some .string) {i : TypeInfo} {z : Value}
    (hi : P.info? e = some i) (hz : i.zero = some z) {base : Option Addr} {sLen sCap n : Nat} {x : Value} (hn : (Builtin.lenOf x).run P w = .ok n w) {old new : Array Value}
    (ho : (Builtin.firstCells i.size sLen (.slice base sLen sCap)).run P w.drew = .ok old w.drew)
    (hf : (Builtin.firstCells i.size n x).run P w.drew = .ok new w.drew) (hle : ¬ sLen + n ≤ sCap) (h63 : ((sLen + n : Nat) : Int) ≤ 9223372036854775807)
    (hfit : Builtin.nextslicecap (sLen + n) sCap * i.bytes ≤ 281474976710656)
    {args : Array Value} (a0 : args[0]? = some (.slice base sLen sCap)) (a1 : args[1]? = some x) :
    (Builtin.append_ #[t, t2] ty args).run P w =
      .ok (.slice (some ⟨w.heap.size, 0, none⟩) (sLen + n) (grownCap w (sLen + n) sCap e))
        (w.drew.alloc (.cells (old ++ (new ++ Builtin.zeroCells z.cells (grownCap w (sLen + n) sCap e - (sLen + n)))) e)) := by
  have h63' : ¬ (9223372036854775807 < ((sLen : Int) + (n : Int))) := by omega
  have h48' : ¬ (281474976710656 < Builtin.nextslicecap (sLen + n) sCap * i.bytes) := by omega
  rcases hu with ⟨e2, hu⟩ | hu <;>
  · simp [Builtin.append_, a0, a1, run_underlying ht, run_underlying hu, Go.sizeOf, typeInfo, zeroValue, hi, hz, hn, hle, h63', h48', Question.forced, ho, hf, newRow, grownCap]

theorem need_le_grownCap (w : World) (need old : Nat) (e : TypeId) : need ≤ grownCap w need old e := by
  unfold grownCap
  simp only [Question.cut]
  omega


/-! ## A block that is read only from now on -/

theorem Rel.lock (h : Rel P φ H w) {b : Id} {k : Loc} (hb : φ b = some k) {cs : V} {e : TypeId} {sh : List Id} (hx : H.get b = some (.cells cs e 0 sh))
    (hs : H.set b (.cells cs e 1 sh) = some H') : Rel P φ H' w ∧ Ext φ H w φ H' w := by
  obtain ⟨hbw, hbn, hbr⟩ := h.wf b k hb
  obtain ⟨s1, s2, s3, s4⟩ := CH.set_some hs hbw
  have hwr : WrAt H b := ⟨s3, _, hx, rfl⟩
  have one : ∀ c l y, φ c = some l → c ≠ b → l.r = k.r → H.get c = some y → Dead y ∨ ¬ Wr y := by
    intro c l y hc hne hlr hy
    rcases h.sep b c k l _ y hb hc (Ne.symm hne) hlr.symm hx hy with hd | hd | ⟨hd, _⟩ | ⟨_, _, _, _, _, _, _, _, hd, _⟩ | ⟨_, _, _, _, _, _, _, _, hd, _⟩
    · cases hd
    · exact .inl hd
    · exact absurd rfl hd
    · cases hd
    · subst hd; exact .inr (by intro e; cases e)
  constructor
  · refine ⟨?_, ?_, ?_, ?_⟩
    · rw [s1]; exact h.nok
    · intro c l hc
      obtain ⟨h1, h2, h3⟩ := h.wf c l hc
      exact ⟨h1, by rw [s1]; exact h2, h3⟩
    · intro c l hc
      obtain ⟨h1, h2, h3⟩ := h.wf c l hc
      obtain ⟨z, h4, h5⟩ := h.blk c l hc
      by_cases ec : c = b
      · subst ec
        rw [hb] at hc; cases hc
        rw [hx] at h4; cases h4
        refine ⟨_, by rw [s4 c h1, if_pos rfl], ?_⟩
        rcases h5 with h5 | h5
        · cases h5
        · exact .inr h5
      · exact ⟨z, by rw [s4 c h1, if_neg ec]; exact h4, h5⟩
    · intro c d l m p q hc hd hne hlr hp hq
      obtain ⟨hcw, _, _⟩ := h.wf c l hc
      obtain ⟨hdw, _, _⟩ := h.wf d m hd
      rw [s4 c hcw] at hp
      rw [s4 d hdw] at hq
      by_cases ec : c = b
      · subst ec
        rw [hb] at hc; cases hc
        rw [if_pos rfl] at hp; cases hp
        rw [if_neg (Ne.symm hne)] at hq
        rcases one d m q hd (Ne.symm hne) hlr.symm hq with h1 | h1
        · exact .inr (.inl h1)
        · exact .inr (.inr (.inl ⟨(by intro e; cases e), h1⟩))
      · rw [if_neg ec] at hp
        by_cases ed : d = b
        · subst ed
          rw [hb] at hd; cases hd
          rw [if_pos rfl] at hq; cases hq
          rcases one c l p hc hne hlr hp with h1 | h1
          · exact .inl h1
          · exact .inr (.inr (.inl ⟨h1, (by intro e; cases e)⟩))
        · rw [if_neg ed] at hq
          exact h.sep c d l m p q hc hd hne hlr hp hq
  · refine ⟨Phi.le_refl φ, s2, ?_, ?_, ?_, ?_, ?_, ?_, Nat.le_refl _, rfl, rfl, rfl, fun _ => rfl⟩
    · intro c l h1 h2; rw [h2] at h1; cases h1
    · intro c hc; rw [s1]; exact hc
    · intro c l h1 h2; rw [h2] at h1; cases h1
    · intro r _ _; rfl
    · rintro c hcb hcw hn ⟨h1, z, h2, h3⟩
      by_cases ec : c = b
      · subst ec; exact hn hwr
      · rw [s4 c hcw, if_neg ec] at h2
        exact hn ⟨by rw [← s2]; exact h1, z, h2, h3⟩
    · intro c hcb hcw hf
      rw [s4 c hcw, if_neg]
      rintro rfl; omega

/-- A BLOCK THAT GROWS WHERE IT LIES: the view that it was is read only, a longer one begins at the slice. -/
theorem Rel.grow (h : Rel P φ H w) {b : Id} {k : Loc} (hb : φ b = some k) {cs : V} {e : TypeId} {sh : List Id} (hx : H.get b = some (.cells cs e 0 sh))
    {H₁ : CH} (hs : H.set b (.cells cs e 1 sh) = some H₁) (hn : H₁.n.wf) {off : Nat} {new : V} {ys : List Value} (hv : LR φ new ys) (ho : off ≤ lenL cs) (hfit : lenL cs + ys.length ≤ k.m)
    (e1 : H'.n = H₁.n.next) (e2 : H'.fz = H₁.fz) (e3 : ∀ j : Id, j.wf → H'.get j = if j = H₁.n then some (.cells (appV (dropV cs off) new) e 0 (b :: sh)) else H₁.get j) :
    ∃ arr el, w.heap[k.r]? = some (.cells arr el (0, 0)) ∧ k.o + lenL cs + ys.length ≤ arr.size ∧
      Rel P (φ.with H₁.n ⟨k.r, k.o + off, k.m - off⟩) H' { w with heap := w.heap.setIfInBounds k.r (.cells (putArr arr (k.o + lenL cs) ys) el (0, 0)) } ∧
      Ext φ H w (φ.with H₁.n ⟨k.r, k.o + off, k.m - off⟩) H' { w with heap := w.heap.setIfInBounds k.r (.cells (putArr arr (k.o + lenL cs) ys) el (0, 0)) } := by
  obtain ⟨hbw, hbn, hbr⟩ := h.wf b k hb
  obtain ⟨s1, s2, s3, s4⟩ := CH.set_some hs hbw
  have hwr : WrAt H b := ⟨s3, _, hx, rfl⟩
  obtain ⟨z, hz, hbl⟩ := h.blk b k hb
  rw [hx] at hz; cases hz
  rcases hbl with hbl | ⟨⟨arr, el, a1, a2, a3, us, a4, a5⟩, a6⟩
  · cases hbl
  have hlen := LR.len a4
  have hnone : φ H₁.n = none := by rw [s1]; exact h.none_at_n (by rw [← s1]; exact hn)
  have hle := Phi.le_with (⟨k.r, k.o + off, k.m - off⟩ : Loc) hnone
  have hsz : k.o + lenL cs + ys.length ≤ arr.size := by omega
  refine ⟨arr, el, a1, hsz, ?_, ?_⟩
  · have hat : (w.heap.setIfInBounds k.r (.cells (putArr arr (k.o + lenL cs) ys) el (0, 0)))[k.r]? = some (.cells (putArr arr (k.o + lenL cs) ys) el (0, 0)) := by
      rw [Array.getElem?_setIfInBounds, if_pos rfl, if_pos hbr]
    have hoth : ∀ r, r ≠ k.r → (w.heap.setIfInBounds k.r (.cells (putArr arr (k.o + lenL cs) ys) el (0, 0)))[r]? = w.heap[r]? := fun r hr => Array.getElem?_setIfInBounds_ne (Ne.symm hr)
    have hget : ∀ c l, φ c = some l → H'.get c = if c = b then some (.cells cs e 1 sh) else H.get c := by
      intro c l hc
      have hcw := (h.wf c l hc).1
      rw [e3 c hcw, if_neg, s4 c hcw]
      rintro rfl; rw [hnone] at hc; cases hc
    -- what lies in the same real block beside it
    have same : ∀ c l y, φ c = some l → c ≠ b → l.r = k.r → H.get c = some y → Dead y ∨ ∃ cs' e' sh', y = .cells cs' e' 1 sh' ∧ c ∈ sh ∧ l.o + lenL cs' ≤ k.o + lenL cs := by
      intro c l y hc hne hlr hy
      rcases h.sep b c k l _ y hb hc (Ne.symm hne) hlr.symm hx hy with hd | hd | ⟨hd, _⟩ | ⟨_, _, _, _, _, _, _, _, hd, _⟩ | ⟨_, _, _, cs', e', sh', q1, q2, q3, q4⟩
      · cases hd
      · exact .inl hd
      · exact absurd rfl hd
      · cases hd
      · cases q1; exact .inr ⟨cs', e', sh', q3, q2, q4⟩
    have hput : ∀ i v, i < k.o + lenL cs → arr[i]? = some v → (putArr arr (k.o + lenL cs) ys)[i]? = some v := by
      intro i v hi hv
      rw [putArr_get _ _ _ _ hsz, if_neg (by omega)]; exact hv
    refine ⟨?_, ?_, ?_, ?_⟩
    · rw [e1]; exact Id.okN_next hn
    · intro c l hc
      by_cases ec : c = H₁.n
      · subst ec
        rw [Phi.with_self] at hc; cases hc
        exact ⟨hn, by rw [e1]; exact Before.self hn, by simpa using hbr⟩
      · rw [Phi.with_ne _ ec] at hc
        obtain ⟨h1, h2, h3⟩ := h.wf c l hc
        exact ⟨h1, by rw [e1]; exact Before.next hn (by rw [s1]; exact h2), by simpa using h3⟩
    · intro c l hc
      by_cases ec : c = H₁.n
      · subst ec
        rw [Phi.with_self] at hc; cases hc
        refine ⟨_, by rw [e3 _ hn, if_pos rfl], ?_⟩
        show BlkR P _ _ _ ((w.heap.setIfInBounds k.r _)[k.r]?)
        rw [hat]
        have hall : LR (φ.with H₁.n ⟨k.r, k.o + off, k.m - off⟩) (appV (dropV cs off) new) (us.drop off ++ ys) := (LR.app (a4.drop off) hv).mono hle
        refine .inr ⟨⟨_, el, rfl, ?_, ?_, us.drop off ++ ys, hall, ?_⟩, ?_⟩
        · rw [putArr_size]; show k.o + off + (k.m - off) ≤ arr.size; omega
        · rw [LR.len hall]; show (us.drop off ++ ys).length ≤ k.m - off; simp; omega
        · intro i v hi
          show (putArr arr (k.o + lenL cs) ys)[k.o + off + i]? = some v
          by_cases h1 : i < us.length - off
          · rw [List.getElem?_append_left (by simpa using h1), List.getElem?_drop] at hi
            exact hput _ _ (by omega) (by have := a5 _ _ hi; rwa [show k.o + (off + i) = k.o + off + i by omega] at this)
          · rw [List.getElem?_append_right (by simp; omega)] at hi
            have h2 : i - (us.drop off).length < ys.length := by
              obtain ⟨h3, _⟩ := List.getElem?_eq_some_iff.1 hi; exact h3
            simp at hi h2
            rw [putArr_get _ _ _ _ hsz, if_pos (by omega), ← hi]; congr 1; omega
        · intro s hs
          rcases List.mem_cons.1 hs with rfl | hs
          · exact hbw
          · exact a6 s hs
      · rw [Phi.with_ne _ ec] at hc
        obtain ⟨z, h4, h5⟩ := h.blk c l hc
        rw [hget c l hc]
        by_cases eb : c = b
        · subst eb
          rw [hb] at hc; cases hc
          refine ⟨_, by rw [if_pos rfl], ?_⟩
          show BlkR P _ _ _ ((w.heap.setIfInBounds k.r _)[k.r]?)
          rw [hat]
          exact .inr ⟨⟨_, el, rfl, by rw [putArr_size]; exact a2, a3, us, a4.mono hle, fun i v hi => hput _ _ (by obtain ⟨h3, _⟩ := List.getElem?_eq_some_iff.1 hi; omega) (a5 i v hi)⟩, a6⟩
        · refine ⟨z, by rw [if_neg eb]; exact h4, ?_⟩
          show BlkR P _ _ _ ((w.heap.setIfInBounds k.r _)[l.r]?)
          by_cases er : l.r = k.r
          · rcases same c l z hc eb er h4 with hd | ⟨cs', e', sh', rfl, q2, q3⟩
            · cases z with
              | cells => exact .inl hd
              | _ => exact hd.elim
            · rcases h5 with h5 | ⟨⟨arr', el', b1, b2, b3, us', b4, b5⟩, b6⟩
              · cases h5
              · rw [er, a1] at b1; cases b1
                rw [er, hat]
                refine .inr ⟨⟨_, el, rfl, by rw [putArr_size]; exact b2, b3, us', b4.mono hle, fun i v hi => hput _ _ ?_ (b5 i v hi)⟩, b6⟩
                obtain ⟨h3, _⟩ := List.getElem?_eq_some_iff.1 hi
                have := LR.len b4
                omega
          · rw [hoth _ er]; exact h5.mono hle
    · have newsep : ∀ c l y, φ c = some l → l.r = k.r → H'.get c = some y → Dead y ∨ Under c y l (.cells (appV (dropV cs off) new) e 0 (b :: sh)) ⟨k.r, k.o + off, k.m - off⟩ := by
        intro c l y hc hlr hy
        rw [hget c l hc] at hy
        have hl2 : lenL (appV (dropV cs off) new) = lenL cs - off + ys.length := by
          rw [LR.len (LR.app (a4.drop off) hv)]; simp; omega
        by_cases eb : c = b
        · subst eb
          rw [hb] at hc; cases hc
          rw [if_pos rfl] at hy; cases hy
          exact .inr ⟨_, _, _, _, _, _, rfl, by simp, rfl, by rw [hl2]; show k.o + lenL cs ≤ k.o + off + _; omega⟩
        · rw [if_neg eb] at hy
          rcases same c l y hc eb hlr hy with hd | ⟨cs', e', sh', rfl, q2, q3⟩
          · exact .inl hd
          · exact .inr ⟨_, _, _, _, _, _, rfl, by simp [q2], rfl, by rw [hl2]; show _ ≤ k.o + off + _; omega⟩
      intro c d l m p q hc hd hne hlr hp hq
      by_cases ec : c = H₁.n
      · subst ec
        rw [Phi.with_self] at hc; cases hc
        rw [Phi.with_ne _ (Ne.symm hne)] at hd
        rw [e3 _ hn, if_pos rfl] at hp; cases hp
        rcases newsep d m q hd hlr.symm hq with h1 | h1
        · exact .inr (.inl h1)
        · exact .inr (.inr (.inr (.inr h1)))
      · rw [Phi.with_ne _ ec] at hc
        by_cases ed : d = H₁.n
        · subst ed
          rw [Phi.with_self] at hd; cases hd
          rw [e3 _ hn, if_pos rfl] at hq; cases hq
          rcases newsep c l p hc hlr hp with h1 | h1
          · exact .inl h1
          · exact .inr (.inr (.inr (.inl h1)))
        · rw [Phi.with_ne _ ed] at hd
          obtain ⟨r1, r2⟩ := h.lock hb hx hs
          have hcw := (h.wf c l hc).1
          have hdw := (h.wf d m hd).1
          rw [e3 c hcw, if_neg ec] at hp
          rw [e3 d hdw, if_neg ed] at hq
          exact r1.sep c d l m p q hc hd hne hlr hp hq
  · refine ⟨hle, e2.trans s2, ?_, ?_, ?_, ?_, ?_, ?_, by simp, rfl, rfl, rfl, frozen_set w a1 rfl rfl⟩
    · intro c l hc hc0
      by_cases ec : c = H₁.n
      · subst ec; rw [← s1]; exact not_before_self hn
      · rw [Phi.with_ne _ ec, hc0] at hc; cases hc
    · intro c hc; rw [e1]; exact Before.next hn (by rw [s1]; exact hc)
    · intro c l hc hc0
      by_cases ec : c = H₁.n
      · subst ec; rw [Phi.with_self] at hc; cases hc; exact .inr ⟨b, k, hb, rfl, hwr⟩
      · rw [Phi.with_ne _ ec, hc0] at hc; cases hc
    · intro r _ hall
      exact Array.getElem?_setIfInBounds_ne (fun e => hall b k hb e hwr)
    · rintro c hcb hcw hw ⟨h1, y, h2, h3⟩
      have hne : c ≠ H₁.n := by rintro rfl; rw [← s1] at hcb; exact not_before_self hn hcb
      rw [e3 c hcw, if_neg hne, s4 c hcw] at h2
      by_cases ec : c = b
      · subst ec; exact hw hwr
      · rw [if_neg ec] at h2
        exact hw ⟨by rw [← s2, ← e2]; exact h1, y, h2, h3⟩
    · intro c hcb hcw hf
      have hne : c ≠ H₁.n := by rintro rfl; rw [← s1] at hcb; exact not_before_self hn hcb
      rw [e3 c hcw, if_neg hne, s4 c hcw, if_neg]
      rintro rfl; omega

end Vam
