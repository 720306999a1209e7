import Derived.Test.YthhbfbmfhldbaaaDoorVamT22
set_option linter.unusedVariables false
set_option linter.unusedSimpArgs false
set_option linter.constructorNameAsVariable false
namespace Go.Proofs.YthhbfbmfhldbaaaDoor.locks
open Vam
variable {is:FuncId→Bool}{orc:Known}{l:Ln}
def ndI(x y:Int):Int:=IntKind.i64.wrap (((BitVec.ofInt 64 x) &&& ~~~(BitVec.ofInt 64 y)).toNat:Int)
section ops
variable {P:Program}{s:St}{all ops:List Oper}{d:Nat}{x y:Operand}{xt yt t:TypeId}{p:String}{e:Array Edge}{Q:St→Prop}{a c:Int}
theorem o_ndI(hd:Nat.blt d 1024=true)(hx:zO s x=.int .i64 a)(hy:zO s y=.int .i64 c)(hk:WpO P is orc all ops (s.put d (.int .i64 (ndI a c))) Q):WpO P is orc all (⟨some d,.binOp .andNot xt x y yt,t,p,e,none⟩::ops) s Q:=
 zCv hd hx hy (v:=.int .i64 (ndI a c)) rfl rfl hk
end ops
theorem o_store1W{P:Program}{s:St}{all l:List Oper}{Q:St→Prop}{x y:Operand}{a off:Nat}{cs ws:List U}{t t':TypeId}{p:String}{e:Array Edge}(hx:zO s x=.box a off)(hb:s.st[a]? =some (.box cs))(hsh:shOf P t'=.one)(hl:off<cs.length)(ho:oneU (zO s y)=true)
  (hw:cs.set off (zO s y)=ws) (k:WpO P is orc all l ((s.dropO y).wr a ws) Q):WpO P is orc all (⟨none,.store t' x y,t,p,e,none⟩::l) s Q:=by
 subst hw
 exact yR hx hb hsh (by rw[Nat.blt_eq];exact hl) ho k
theorem zFC(l:List Int):zw (zE l)=zE l:=by
 induction l with
 |nil=>rfl
 |cons q l ih=>show _::zw (zE l)=_;rw[ih];rfl
theorem int_dg(l:List Int):(zE l).map dg=zE l:=by
 induction l with
 |nil=>rfl
 |cons q l ih=>show _::(zE l).map dg=_;rw[ih];rfl
theorem int_one(l:List Int):(zw (zE l)).all oneU=true:=by
 rw[zFC]
 induction l with
 |nil=>rfl
 |cons q l ih=>exact ih
theorem int_put(l:List Int)(i:Nat)(x:Int)(h:i<l.length):(zE l).set (0+(i:Int).toNat*1) (U.int .i64 x)=zE (l.set i x):=by
 rw[Int.toNat_natCast,Nat.zero_add,Nat.mul_one]
 exact(List.map_set).symm
theorem ints_us{st:List SB}{l:List Int}{a n:Nat}(h:st[a]? =some (.froz ((zE l).map dg)))(hn:l.length=n):US st (.u (.sl a 0 n 1)) (.u (.lst .ro 1 (zE l))):=by
 rw[int_dg]at h
 have hl:(zE l).length=n:=by rw[List.length_map,hn]
 refine .sl _ _ _ _ _ _ h ?_ (fun e he=>?_) hl (by omega)
 ·rw[zFC,List.drop_zero,List.take_of_length_le (by omega)]
 ·obtain⟨q,_,rfl⟩:=List.mem_map.1 he;rfl
theorem mask_tb:∀a:Nat,a<256→∀k:Nat,k<8→(0≤ndI (a:Int) (2 ^ k)∧ndI (a:Int) (2 ^ k)≤255)∧(0≤orZ (ndI (a:Int) (2 ^ k)) (2 ^ k)∧orZ (ndI (a:Int) (2 ^ k)) (2 ^ k)≤255)∧∀t:Nat,t<8→bitI (ndI (a:Int) (2 ^ k)) (t:Int)=(bitI (a:Int) (t:Int)&& !decide (t=k))∧bitI (orZ (ndI (a:Int) (2 ^ k)) (2 ^ k)) (t:Int)=(bitI (a:Int) (t:Int)||decide (t=k)):=by decide+kernel
theorem fc_iff{k:Nat}:fcF l k=true↔at' l.slots k≠ -1∧((∀p∈splL l,at' p k≠0)∨∀p∈splL l,at' p k=0):=by
 unfold fcF woF strF somF
 rw[Bool.and_eq_true,Bool.not_eq_true',Bool.not_eq_true',decide_eq_false_iff_not,Bool.and_eq_false_iff,decide_eq_false_iff_not,decide_eq_false_iff_not]
 refine and_congr Iff.rfl (or_congr ?_ ?_)
 ·unfold cntL
  rw[Nat.not_lt,Nat.le_zero_eq,List.length_eq_zero_iff,List.filter_eq_nil_iff]
  unfold plF
  exact⟨fun h p hp e=>h p hp (kG e),fun h p hp e=>h p hp (of_decide_eq_true e)⟩
 ·have hc:=cntL_le (splL l) k
  rw[Nat.not_lt]
  unfold cntL at hc ⊢
  constructor
  ·intro h p hp
   have he:((splL l).filter fun p=>plF p 0 k).length=(splL l).length:=by omega
   have:=(List.filter_eq_self).1 ((List.filter_sublist (l:=splL l) (p:=fun p=>plF p 0 k)).eq_of_length he) p hp
   exact of_decide_eq_true this
  ·intro h
   have e:(splL l).filter (fun p=>plF p 0 k)=splL l:=List.filter_eq_self.2 fun p hp=>kG (h p hp)
   rw[e];exact Nat.le_refl _
theorem for_mem{x:Int}:x∈memP (fcF l) 16↔ ∃k:Nat,k<16∧x=k∧fcF l k=true:=mem_memP
theorem spl_str(h:VL l){p:List Int}(hp:p∈splL l){k:Nat}(hk:k<l.slots.length)(hs:at' l.slots k≠ -1):at' p k=0∨at' p k=1:=by
 rcases zDR ((zBo.1 ((zCJ h).1 hp)).2.1 k hk)with ⟨_,e⟩|⟨e,_⟩
 ·exact absurd e hs
 ·exact e
theorem str_lt{k:Nat}(hs:at' l.slots k≠ -1):k<l.slots.length:=by
 rcases Nat.lt_or_ge k l.slots.length with c|c
 ·exact c
 ·exact absurd (zEZ c) hs
theorem for_grow(h:VL l):grwB (-1) l.slots.length (memP (fcF l) 16)=true:=(grw_iff _ _).2 ⟨memP_pair _ _,fun x hx=>by
 obtain⟨k,_,rfl,hk⟩:=for_mem.1 hx
 have:=str_lt (fc_iff.1 hk).1
 omega⟩
theorem for_same(h:VL l){p q:List Int}(hp:p∈splL l)(hq:q∈splL l){x:Int}(hx:x∈memP (fcF l) 16):at' p x.toNat=at' q x.toNat:=by
 obtain⟨k,_,rfl,hk⟩:=for_mem.1 hx
 obtain⟨h1,h2⟩:=fc_iff.1 hk
 have hl:=str_lt h1
 show at' p k=at' q k
 rcases h2 with h2|h2
 ·have a1:=h2 p hp
  have a2:=h2 q hq
  have b1:=spl_str h hp hl h1
  have b2:=spl_str h hq hl h1
  omega
 ·rw[h2 p hp,h2 q hq]
theorem for_both(h:VL l)(hn:splL l≠[]){k:Nat}(hs:at' l.slots k≠ -1):((k:Int)∈memP (fcF l) 16↔ ¬ ((∃p∈splL l,at' p k=0)∧∃p∈splL l,at' p k=1))∧((∃p∈splL l,at' p k=0)∨∃p∈splL l,at' p k=1):=by
 have hl:=str_lt hs
 have:=h.n
 rw[mem_P (show k<16 by omega),fc_iff]
 obtain⟨q,hq⟩:=List.exists_mem_of_ne_nil _ hn
 refine⟨⟨?_,fun hno=>⟨hs,?_⟩⟩,?_⟩
 ·rintro⟨_,h1|h1⟩ ⟨⟨p,hp,e⟩,p2,hp2,e2⟩
  ·exact h1 p hp e
  ·have:=h1 p2 hp2;omega
 ·by_cases c:∃p∈splL l,at' p k=0
  ·right
   intro p hp
   rcases spl_str h hp hl hs with e|e
   ·exact e
   ·exact absurd ⟨c,p,hp,e⟩ hno
  ·left
   intro p hp e
   exact c ⟨p,hp,e⟩
 ·rcases spl_str h hq hl hs with e|e
  ·exact .inl ⟨q,hq,e⟩
  ·exact .inr ⟨q,hq,e⟩
def mskI(a:Int)(o:Nat)(b:Bool):Int:=if b=true then orZ (ndI a (2 ^ o)) (2 ^ o)else ndI a (2 ^ o)
theorem msk_rg{a:Int}(ha:0≤a∧a≤255){o:Nat}(ho:o<8)(b:Bool):0≤mskI a o b∧mskI a o b≤255:=by
 have:=mask_tb a.toNat (by omega) o ho
 rw[show((a.toNat:Nat):Int)=a by omega]at this
 unfold mskI
 cases b
 ·exact this.1
 ·exact this.2.1
theorem msk_bit{a:Int}(ha:0≤a∧a≤255){o:Nat}(ho:o<8)(b:Bool){t:Nat}(ht:t<8):bitI (mskI a o b) t=if t=o then b else bitI a t:=by
 have:=(mask_tb a.toNat (by omega) o ho).2.2 t ht
 rw[show((a.toNat:Nat):Int)=a by omega]at this
 unfold mskI
 cases b
 ·rw[if_neg (by decide),this.1]
  by_cases c:t=o
  ·rw[kG c,if_pos c];simp
  ·rw[kH c,if_neg c];simp
 ·rw[if_pos rfl,this.2]
  by_cases c:t=o
  ·rw[kG c,if_pos c];simp
  ·rw[kH c,if_neg c];simp
def ownL(l:Ln)(k o:Nat)(w:Int):Ln:=⟨l.slots.set k (o:Int),mskI l.left o (decide (w=0)),mskI l.right o (decide (w=1)),l.run⟩
theorem own_at{k o:Nat}{w:Int}(hk:k<l.slots.length)(i:Nat):at' (ownL l k o w).slots i=if i=k then(o:Int)else at' l.slots i:=by
 unfold ownL at'
 show((l.slots.set k (o:Int))[i]?).getD (-1)=_
 rw[List.getElem?_set]
 by_cases c:k=i
 ·subst c;rw[if_pos rfl,if_pos hk,if_pos rfl];rfl
 ·rw[if_neg c,if_neg (Ne.symm c)]
theorem own_set{k o:Nat}{w v:Int}(h:VL l)(hv:v=0∨v=1)(ho:o<8){t:Nat}(ht:t<8):bitI (zDV (ownL l k o w) v) t=if t=o then decide (w=v)else bitI (zDV l v) t:=by
 rcases hv with rfl|rfl
 ·exact msk_bit h.lf ho _ ht
 ·exact msk_bit h.rt ho _ ht
theorem own_vl(h:VL l){k o:Nat}(hk:k<l.slots.length)(ho:o<8)(w:Int):VL (ownL l k o w):=by
 have hn:=h.n
 refine⟨?_,h.rn,?_,msk_rg h.lf ho _,msk_rg h.rt ho _,k,by omega,?_⟩
 ·show 1≤(l.slots.set k (o:Int)).length∧_
  show 1≤(l.slots.set k (o:Int)).length∧(l.slots.set k (o:Int)).length≤16
  rw[List.length_set];exact hn
 ·intro x hx
  rcases List.mem_or_eq_of_mem_set hx with hx|rfl
  ·exact h.tn x hx
  ·omega
 ·unfold strF
  rw[own_at hk,if_pos rfl,kH (by omega)];rfl
theorem own_div(h:VL l){k o:Nat}(hs:at' l.slots k≠ -1)(ho:o<8)(hno:(o:Int) ∉ l.slots){w:Int}(hw:w=0∨w=1)(hc:bitI (zDV l w) (at' l.slots k)=true)(p:List Int):divB (ownL l k o w) p=true↔divB l p=true∧at' p k=w:=by
 have hk:=str_lt hs
 have hlen:(ownL l k o w).slots.length=l.slots.length:=List.length_set ..
 rw[zBo,zBo,hlen]
 have hoth:∀i,i<l.slots.length→i≠k→tokB (ownL l k o w) (at' p i) (at' (ownL l k o w).slots i)=tokB l (at' p i) (at' l.slots i):=by
  intro i hi hik
  rw[own_at hk,if_neg hik]
  have hin:at' l.slots i∈l.slots:=by
   unfold at';rw[List.getElem?_eq_getElem hi];exact List.getElem_mem hi
  have ht:=h.tn _ hin
  by_cases c:at' l.slots i= -1
  ·unfold tokB
   rw[c,kH (show ¬ ((-1:Int)≠ -1) by decide)];simp
  ·have hto:(at' l.slots i).toNat≠o:=fun e=>hno (by rw[←e,show(((at' l.slots i).toNat:Nat):Int)=at' l.slots i by omega];exact hin)
   by_cases c2:at' p i=0∨at' p i=1
   ·have:=own_set (k:=k) (o:=o) (w:=w) h c2 ho (show(at' l.slots i).toNat<8 by omega)
    rw[show(((at' l.slots i).toNat:Nat):Int)=at' l.slots i by omega,if_neg hto]at this
    unfold tokB
    rw[this]
   ·unfold tokB
    have e1:decide (at' p i=0)=false:=kH fun e=>c2 (.inl e)
    have e2:decide (at' p i=1)=false:=kH fun e=>c2 (.inr e)
    rw[e1,e2];simp
 have hat:tokB (ownL l k o w) (at' p k) (at' (ownL l k o w).slots k)=true↔at' p k=w:=by
  rw[own_at hk,if_pos rfl]
  constructor
  ·intro e
   rcases zDR e with ⟨_,e2⟩|⟨e2,_⟩
   ·omega
   ·unfold tokB at e
    rw[own_set h e2 ho ho,if_pos rfl]at e
    simp only[Bool.or_eq_true,Bool.and_eq_true,decide_eq_true_eq]at e
    rcases e with ⟨_,e⟩|⟨_,_,e⟩
    ·omega
    ·exact e.symm
  ·intro e
   rw[e]
   unfold tokB
   rw[own_set h hw ho ho,if_pos rfl]
   simp only[Bool.or_eq_true,Bool.and_eq_true,decide_eq_true_eq]
   exact .inr ⟨hw,by omega,trivial⟩
 have hat2:at' p k=w→tokB l (at' p k) (at' l.slots k)=true:=by
  intro e
  rw[e]
  unfold tokB
  simp only[Bool.or_eq_true,Bool.and_eq_true,decide_eq_true_eq]
  exact .inr ⟨hw,hs,hc⟩
 constructor
 ·rintro⟨h1,h2,h3⟩
  have e:=hat.1 (h2 k hk)
  refine⟨⟨h1,fun i hi=>?_,h3⟩,e⟩
  by_cases c:i=k
  ·subst c;exact hat2 e
  ·rw[←hoth i hi c];exact h2 i hi
 ·rintro⟨⟨h1,h2,h3⟩,e⟩
  refine⟨h1,fun i hi=>?_,h3⟩
  by_cases c:i=k
  ·subst c;exact hat.2 e
  ·rw[hoth i hi c];exact h2 i hi
theorem own_many(h:VL l){k o:Nat}(hs:at' l.slots k≠ -1)(ho:o<8)(hno:(o:Int) ∉ l.slots){w:Int}(hw:w=0∨w=1):manE (ownL l k o w)=0∧((bitI (zDV l w) (at' l.slots k)=true∧(manN (ownL l k o w):Int) > 0)↔ ∃p∈splL l,at' p k=w):=by
 have hk:=str_lt hs
 have hv:=own_vl h hk ho w
 unfold manE manN
 rw[if_pos (zAp.2 hv),if_pos (zAp.2 hv)]
 refine⟨rfl,?_⟩
 constructor
 ·rintro⟨hc,hm⟩
  obtain⟨p,hp⟩:=List.exists_mem_of_length_pos (show 0<(splL (ownL l k o w)).length by omega)
  have:=(own_div h hs ho hno hw hc p).1 ((zCJ hv).1 hp)
  exact⟨p,(zCJ h).2 this.1,this.2⟩
 ·rintro⟨p,hp,e⟩
  have hd:=(zCJ h).1 hp
  have hc:bitI (zDV l w) (at' l.slots k)=true:=by
   have:=(zBo.1 hd).2.1 k hk
   rw[e]at this
   unfold tokB at this
   simp only[Bool.or_eq_true,Bool.and_eq_true,decide_eq_true_eq]at this
   rcases this with ⟨_,e2⟩|⟨_,_,e2⟩
   ·exact absurd e2 hs
   ·exact e2
  have:0<(splL (ownL l k o w)).length:=List.length_pos_of_mem ((zCJ hv).2 ((own_div h hs ho hno hw hc p).2 ⟨hd,e⟩))
  exact⟨hc,by omega⟩
end Go.Proofs.YthhbfbmfhldbaaaDoor.locks
