import Derived.Test.YtfbmlibilcjlgaaDoorVamT13
set_option linter.unusedVariables false
set_option linter.unusedSimpArgs false
set_option linter.constructorNameAsVariable false
namespace Go.Proofs.YtfbmlibilcjlgaaDoor.drumEasier
open Vam
section
variable {is:FuncId→Bool}{orc:Known}{b:Bk}
end
section
variable {is:FuncId→Bool}{orc:Known}{b:Bk}
theorem lvP_pok(hb:BOk b):∀(r:Nat) (p L:List Int),((p.length+r:Nat):Int)=b.parts→Pre b p→L∈lvP b r p→POk b L:=by
 intro r
 induction r with
 |zero=>
  intro p L hpr hp hL
  rcases List.mem_singleton.1 (show L∈[p]from hL)with rfl
  exact hp.pok hb (by simpa using hpr)
 |succ r ih=>
  intro p L hpr hp hL
  obtain⟨d,hd,hL⟩:=List.mem_flatMap.1 (show L∈(List.range 4).flatMap _ from hL)
  have hd4:=List.mem_range.1 hd
  split at hL
  ·rename_i he
   exact ih _ L (by rw[List.length_append];simp at hpr ⊢;omega) (hp.snoc (by omega) he) hL
  ·cases hL
theorem paths_pok(hb:BOk b){L:List Int}(h:L∈paths b):POk b L:=by
 have:=hb.pa
 exact lvP_pok hb _ [] L (by simp;omega) (pre_nil b) h
theorem mem_lv(hb:BOk b){L:List Int}(hL:POk b L):∀(r:Nat) (p q:List Int),((p.length+r:Nat):Int)=b.parts→L=p++q→L∈lvP b r p:=by
 have hlen:=hL.len
 intro r
 induction r with
 |zero=>
  intro p q hpr e
  have hq:q=[]:=by
   have:L.length=p.length+q.length:=by rw[e,List.length_append]
   refine List.eq_nil_of_length_eq_zero ?_
   simp at hpr;omega
  subst hq
  rw[List.append_nil]at e
  exact List.mem_singleton.2 e
 |succ r ih=>
  intro p q hpr e
  have hLl:L.length=p.length+q.length:=by rw[e,List.length_append]
  cases q with
  |nil=>simp at hLl hpr;omega
  |cons d q=>
   have hat:L[p.length]? =some d:=by rw[e];simp
   have hd:=hL.rg d (List.mem_of_getElem? hat)
   obtain⟨n,rfl⟩:∃n:Nat,d=n:=⟨d.toNat,by omega⟩
   refine List.mem_flatMap.2 ⟨n,List.mem_range.2 (by omega),?_⟩
   have hex:exB b p n=true:=by
    unfold exB
    rw[Bool.and_eq_true,Bool.or_eq_true,Bool.or_eq_true]
    by_cases h0:p.length=0
    ·refine⟨.inr (decide_eq_true ?_),.inl (decide_eq_true h0)⟩
     have:=hL.st
     rw[h0]at hat
     rw[hat]at this;exact Option.some.inj this
    ·refine⟨.inl (decide_eq_true (by omega)),.inr (decide_eq_true ?_)⟩
     obtain⟨x,hx⟩:∃x,p[p.length - 1]? =some x:=⟨p[p.length - 1],List.getElem?_eq_getElem (by omega)⟩
     have hx2:L[p.length - 1]? =some x:=by rw[e,List.getElem?_append_left (by omega)];exact hx
     have:=hL.nr (p.length - 1) x n hx2 (by rw[show p.length - 1+1=p.length by omega];exact hat)
     rw[hx]
     unfold zFd
     simp only[Option.getD_some]
     omega
   rw[if_pos hex]
   exact ih (p++[(n:Int)]) q (by rw[List.length_append];simp at hpr ⊢;omega) (by rw[e];simp)
theorem mem_paths(hb:BOk b){L:List Int}:L∈paths b↔POk b L:=by
 have:=hb.pa
 exact⟨paths_pok hb,fun h=>mem_lv hb h _ [] L (by simp;omega) rfl⟩
theorem mem_plans(hb:BOk b){L:List Int}:L∈zBz b↔POk b L∧zEM b L=true:=by
 unfold zBz
 rw[List.mem_filter,mem_paths hb]
end
end Go.Proofs.YtfbmlibilcjlgaaDoor.drumEasier
