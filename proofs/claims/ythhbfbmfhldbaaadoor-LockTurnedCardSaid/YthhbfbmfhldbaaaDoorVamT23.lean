import Derived.Test.YthhbfbmfhldbaaaDoorVamT22
set_option linter.unusedVariables false
set_option linter.unusedSimpArgs false
set_option linter.constructorNameAsVariable false
namespace Go.Proofs.YthhbfbmfhldbaaaDoor.locks
open Vam
section
variable {is:FuncId→Bool}{orc:Known}{l:Ln}
section ops
variable {P:Program}{s:St}{all ops:List Oper}{d:Nat}{x y:Operand}{xt yt t:TypeId}{p:String}{e:Array Edge}{Q:St→Prop}{a c:Int}
end ops
theorem int_flat(l:List Int):zl (zF l)=zF l:=by
 induction l with
 |nil=>rfl
 |cons q l ih=>show _::zl (zF l)=_;rw[ih];rfl
theorem int_one(l:List Int):(zl (zF l)).all oneU=true:=by
 rw[int_flat]
 induction l with
 |nil=>rfl
 |cons q l ih=>exact ih
theorem fc_iff{k:Nat}:fcF l k=true↔at' l.slots k≠ -1∧((∀p∈splL l,at' p k≠0)∨∀p∈splL l,at' p k=0):=by
 unfold fcF woF strF somF
 rw[Bool.and_eq_true,Bool.not_eq_true',Bool.not_eq_true',decide_eq_false_iff_not,Bool.and_eq_false_iff,decide_eq_false_iff_not,decide_eq_false_iff_not]
 refine and_congr Iff.rfl (or_congr ?_ ?_)
 ·unfold cntL
  rw[Nat.not_lt,Nat.le_zero_eq,List.length_eq_zero_iff,List.filter_eq_nil_iff]
  unfold plF
  exact⟨fun h p hp e=>h p hp (kF e),fun h p hp e=>h p hp (of_decide_eq_true e)⟩
 ·have hc:=cntL_le (splL l) k
  rw[Nat.not_lt]
  unfold cntL at hc ⊢
  constructor
  ·intro h p hp
   have he:((splL l).filter fun p=>plF p 0 k).length=(splL l).length:=by omega
   have:=(List.filter_eq_self).1 ((List.filter_sublist (l:=splL l) (p:=fun p=>plF p 0 k)).eq_of_length he) p hp
   exact of_decide_eq_true this
  ·intro h
   have e:(splL l).filter (fun p=>plF p 0 k)=splL l:=List.filter_eq_self.2 fun p hp=>kF (h p hp)
   rw[e];exact Nat.le_refl _
theorem spl_str(h:VL l){p:List Int}(hp:p∈splL l){k:Nat}(hk:k<l.slots.length)(hs:at' l.slots k≠ -1):at' p k=0∨at' p k=1:=by
 rcases zCL ((wo.1 ((zBg h).1 hp)).2.1 k hk)with ⟨_,e⟩|⟨e,_⟩
 ·exact absurd e hs
 ·exact e
theorem str_lt{k:Nat}(hs:at' l.slots k≠ -1):k<l.slots.length:=by
 rcases Nat.lt_or_ge k l.slots.length with c|c
 ·exact c
 ·exact absurd (zEZ c) hs
end
section
variable {is:FuncId→Bool}{orc:Known}{l m:Ln}
theorem nodup_le{α:Type}[DecidableEq α]:∀{L M:List α},L.Nodup→(∀x∈L,x∈M)→L.length≤M.length:=by
 intro L
 induction L with
 |nil=>intro M _ _;exact Nat.zero_le _
 |cons x L ih=>
  intro M hn hs
  obtain⟨h1,h2⟩:=List.nodup_cons.1 hn
  have hx:=hs x List.mem_cons_self
  have:=ih (M:=M.erase x) h2 fun y hy=>(List.mem_erase_of_ne (fun e=>h1 (by rw[←e];exact hy))).2 (hs y (List.mem_cons_of_mem _ hy))
  rw[List.length_erase_of_mem hx]at this
  have:=List.length_pos_of_mem hx
  show L.length+1≤_
  omega
theorem zDy(hl:VL l)(hm:VL m)(f g:List Int→List Int)(hf:∀p,divB l p=true→divB m (f p)=true∧g (f p)=p):(splL l).length≤(splL m).length:=by
 have h1:((splL l).map f).Nodup:=by
  refine List.pairwise_map.2 ((spl_nodup l l.slots.length []).imp_of_mem ?_)
  intro a b ha hb hab e
  have e1:=(hf a ((zBg hl).1 ha)).2
  have e2:=(hf b ((zBg hl).1 hb)).2
  rw[e]at e1
  exact hab (e1.symm.trans e2)
 have:=nodup_le h1 (M:=splL m) fun x hx=>by
  obtain⟨p,hp,rfl⟩:=List.mem_map.1 hx
  exact(zBg hm).2 (hf p ((zBg hl).1 hp)).1
 rwa [List.length_map]at this
def flI(x:Int):Int:=if x=0 then 1 else if x=1 then 0 else x
def flL(p:List Int):List Int:=p.map flI
theorem fl_fl(x:Int):flI (flI x)=x:=by
 unfold flI
 by_cases a:x=0
 ·subst a;rfl
 ·by_cases b:x=1
  ·subst b;rfl
  ·rw[if_neg a,if_neg b,if_neg a,if_neg b]
theorem flL_flL(p:List Int):flL (flL p)=p:=by
 unfold flL
 rw[List.map_map]
 exact(List.map_congr_left fun x _=>fl_fl x).trans (List.map_id p)
theorem flL_at(p:List Int)(i:Nat):at' (flL p) i=flI (at' p i):=by
 unfold flL at'
 rw[List.getElem?_map]
 cases p[i]? with
 |none=>rfl
 |some x=>rfl
theorem fl_eq{x w:Int}(hw:w=0∨w=1):flI x=w↔x=1 - w:=by
 unfold flI
 rcases hw with rfl|rfl
 ·by_cases a:x=0
  ·rw[if_pos a];omega
  ·rw[if_neg a]
   by_cases b:x=1
   ·rw[if_pos b];omega
   ·rw[if_neg b];omega
 ·by_cases a:x=0
  ·rw[if_pos a];omega
  ·rw[if_neg a]
   by_cases b:x=1
   ·rw[if_pos b];omega
   ·rw[if_neg b];omega
def xchL(l:Ln):Ln:=⟨l.slots,l.right,l.left,l.run⟩
theorem zEQ(h:VL l):VL (xchL l):=⟨h.n,h.rn,h.tn,h.rt,h.lf,h.st⟩
theorem fl_inv{x w:Int}:flI x=w↔x=flI w:=⟨fun e=>by rw[←e,fl_fl],fun e=>by rw[e,fl_fl]⟩
theorem fl_pl(p:List Int)(i:Int):pl (flL p) i=flI (pl p i):=by
 have:=flL_at p (i % (p.length:Int)).toNat
 have e:(flL p).length=p.length:=List.length_map _
 unfold pl
 rw[e]
 exact this
theorem nowin_fl{p:List Int}{r:Nat}(h:NoWin p r):NoWin (flL p) r:=by
 intro who h0 i hw
 have hp:0≤flI who:=by
  unfold flI
  by_cases a:who=0
  ·rw[if_pos a];decide
  ·rw[if_neg a]
   by_cases b:who=1
   ·rw[if_pos b];decide
   ·rw[if_neg b];exact h0
 refine h _ hp i fun j hj=>?_
 have:=of_decide_eq_true (hw j hj)
 rw[fl_pl,fl_inv]at this
 exact kF this
theorem tok_fl(l:Ln)(a t:Int)(h:tokB l a t=true):tokB (xchL l) (flI a) t=true:=by
 rcases zCL h with ⟨rfl,rfl⟩|⟨rfl|rfl,_⟩
 ·rfl
 ·exact h
 ·exact h
theorem div_fl{p:List Int}(h:divB l p=true):divB (xchL l) (flL p)=true:=by
 obtain⟨h1,h2,h3⟩:=wo.1 h
 refine wo.2 ⟨(List.length_map _).trans h1,fun i hi=>?_,nowin_fl h3⟩
 rw[flL_at]
 exact tok_fl l _ _ (h2 i hi)
theorem xch_xch(l:Ln):xchL (xchL l)=l:=rfl
theorem many_fl(h:VL l):(splL (xchL l)).length=(splL l).length:=
 Nat.le_antisymm (zDy (zEQ h) h flL flL fun _ hp=>⟨div_fl hp,flL_flL _⟩) (zDy h (zEQ h) flL flL fun _ hp=>⟨div_fl hp,flL_flL _⟩)
theorem spl_fl(h:VL l){p:List Int}(hp:p∈splL l):flL p∈splL (xchL l):=(zBg (zEQ h)).2 (div_fl ((zBg h).1 hp))
theorem prt_fl(p:List Int){w:Int}(hw:w=0∨w=1):prtL (flL p) w=prtL p (1 - w):=by
 unfold prtL
 rw[show(flL p).length=p.length from List.length_map _]
 exact memP_congr fun i _=>by rw[flL_at];exact decide_eq_decide.2 (fl_eq hw)
theorem df_fl(p:List Int):dfI (flL p)=dfI p:=by
 unfold dfI
 rw[prt_fl p (.inl rfl),prt_fl p (.inr rfl),Int.max_comm];rfl
theorem bst_fl(h:VL l):(bstO (splL (xchL l))).isSome=(bstO (splL l)).isSome∧∀b c,bstO (splL l)=some b→bstO (splL (xchL l))=some c→dfI c=dfI b:=by
 have hv:=zEQ h
 have hm:=many_fl h
 refine⟨?_,fun b c hb hc=>?_⟩
 ·cases hb:bstO (splL l)with
  |none=>
   rw[none_spl h hb]at hm
   rw[List.length_eq_zero_iff.1 hm];rfl
  |some b=>
   cases hc:bstO (splL (xchL l))with
   |none=>
    rw[none_spl hv hc]at hm
    have:=List.length_pos_of_mem (zDU hb).1
    rw[←hm]at this;exact absurd this (Nat.lt_irrefl _)
   |some c=>rfl
 ·obtain⟨b1,b2⟩:=zDU hb
  obtain⟨c1,c2⟩:=zDU hc
  have h1:=(c2 _ (spl_fl h b1)).1
  have h2:=(b2 _ (spl_fl hv c1)).1
  rw[df_fl]at h1 h2
  omega
theorem fc_fl(h:VL l)(k:Nat):fcF (xchL l) k=fcF l k:=by
 have key:∀m:Ln,VL m→fcF m k=true→fcF (xchL m) k=true:=by
  intro m hm hk
  obtain⟨h1,h2⟩:=fc_iff.1 hk
  have hl:=str_lt h1
  refine fc_iff.2 ⟨h1,?_⟩
  have hq:∀q∈splL (xchL m),flL q∈splL m:=fun q hq=>spl_fl (zEQ hm) hq
  rcases h2 with h2|h2
  ·right
   intro q q1
   have h3:=h2 _ (hq q q1)
   have h4:=spl_str hm (hq q q1) hl h1
   have h5:at' (flL q) k=1:=by omega
   rw[flL_at,fl_eq (.inr rfl)]at h5
   exact h5
  ·left
   intro q q1
   have h3:=h2 _ (hq q q1)
   rw[flL_at,fl_eq (.inl rfl)]at h3
   omega
 cases c:fcF l k with
 |true=>exact key l h c
 |false=>
  cases d:fcF (xchL l) k with
  |false=>rfl
  |true=>
   have:=key _ (zEQ h) d
   rw[xch_xch,c]at this;cases this
theorem win_less{p:List Int}{r r2:Nat}(hr:r≤r2)(h:NoWin p r):NoWin p r2:=fun who h0 i hw=>h who h0 i fun j hj=>hw j (Nat.le_trans hj hr)
theorem many_run(h:VL l){r:Int}(hr:l.run≤r∧r≤16):VL ⟨l.slots,l.left,l.right,r⟩∧(splL l).length≤(splL ⟨l.slots,l.left,l.right,r⟩).length:=by
 have:=h.rn
 have hv:VL ⟨l.slots,l.left,l.right,r⟩:=⟨h.n,⟨by show 1≤r;omega,hr.2⟩,h.tn,h.lf,h.rt,h.st⟩
 refine⟨hv,zDy h hv id id fun p hp=>⟨?_,rfl⟩⟩
 obtain⟨h1,h2,h3⟩:=wo.1 hp
 exact wo.2 ⟨h1,h2,win_less (show l.run.toNat≤r.toNat by omega) h3⟩
theorem bitN_tb:∀v:Nat,v<256→∀t:Nat,t<8→bitI (v:Int) (t:Int)=v.testBit t:=by decide+kernel
theorem or_nat{a c:Nat}(ha:a<256)(hc:c<256):orZ (a:Int) (c:Int)=((a ||| c:Nat):Int)∧a ||| c<256:=by
 have h8:a ||| c<2 ^ 8:=Nat.or_lt_two_pow ha hc
 refine⟨?_,h8⟩
 unfold orZ
 rw[BitVec.toNat_or,ofI_nat (by omega),ofI_nat (by omega)]
 exact wrap_nat (by omega)
theorem or_bit{a c:Int}(ha:0≤a∧a≤255)(hc:0≤c∧c≤255):(0≤orZ a c∧orZ a c≤255)∧∀t:Nat,t<8→bitI a t=true→bitI (orZ a c) t=true:=by
 obtain⟨x,rfl⟩:∃x:Nat,a=x:=⟨a.toNat,by omega⟩
 obtain⟨y,rfl⟩:∃y:Nat,c=y:=⟨c.toNat,by omega⟩
 obtain⟨e,e2⟩:=or_nat (a:=x) (c:=y) (by omega) (by omega)
 rw[e]
 refine⟨by omega,fun t ht h=>?_⟩
 rw[bitN_tb _ (by omega) t ht]at h
 rw[bitN_tb _ e2 t ht,Nat.testBit_or,h];rfl
theorem many_tone(h:VL l){c:Int}(hc:0≤c∧c≤255):VL ⟨l.slots,orZ l.left c,l.right,l.run⟩∧(splL l).length≤(splL ⟨l.slots,orZ l.left c,l.right,l.run⟩).length:=by
 obtain⟨o1,o2⟩:=or_bit h.lf hc
 have hv:VL ⟨l.slots,orZ l.left c,l.right,l.run⟩:=⟨h.n,h.rn,h.tn,o1,h.rt,h.st⟩
 refine⟨hv,zDy h hv id id fun p hp=>⟨?_,rfl⟩⟩
 obtain⟨h1,h2,h3⟩:=wo.1 hp
 refine wo.2 ⟨h1,fun i hi=>?_,h3⟩
 have hi:i<l.slots.length:=hi
 have ht:=h2 i hi
 show tokB _ (at' p i) (at' l.slots i)=true
 have hin:at' l.slots i∈l.slots:=by
  unfold at';rw[List.getElem?_eq_getElem hi];exact List.getElem_mem hi
 have hb:=h.tn _ hin
 show tokB _ (id (at' p i)) (at' l.slots i)=true
 generalize at' l.slots i=t at*
 generalize at' p i=a at*
 rcases zCL ht with ⟨rfl,rfl⟩|⟨rfl|rfl,hn⟩
 ·rfl
 ·unfold tokB at ht ⊢
  simp only[Bool.or_eq_true,Bool.and_eq_true,decide_eq_true_eq]at ht ⊢
  rcases ht with ⟨e,_⟩|⟨_,_,e⟩
  ·cases e
  ·have:=o2 t.toNat (by omega)
   rw[show((t.toNat:Nat):Int)=t by omega]at this
   exact .inr ⟨.inl rfl,hn,this e⟩
 ·exact ht
def rotI(p:List Int)(f:Nat):List Int:=p.drop f++p.take f
theorem zDu(p:List Int)(f:Nat):(rotI p f).length=p.length:=by
 unfold rotI;rw[List.length_append,List.length_drop,List.length_take];omega
theorem rot_rot(p:List Int){f:Nat}(h:f≤p.length):rotI (rotI p f) (p.length - f)=p:=by
 unfold rotI
 have e:p.length - f=(p.drop f).length:=(List.length_drop ..).symm
 rw[e,List.drop_left,List.take_left,List.take_append_drop]
theorem rot_at(p:List Int){f i:Nat}(hf:f≤p.length)(hi:i<p.length):at' (rotI p f) i=at' p ((i+f) % p.length):=by
 unfold at' rotI
 by_cases c:i+f<p.length
 ·rw[Nat.mod_eq_of_lt c,List.getElem?_append_left (by rw[List.length_drop];omega),List.getElem?_drop,Nat.add_comm]
 ·rw[Nat.mod_eq_sub_mod (by omega),Nat.mod_eq_of_lt (by omega),List.getElem?_append_right (by rw[List.length_drop];omega),List.length_drop,List.getElem?_take_of_lt (by omega),show i - (p.length - f)=i+f - p.length by omega]
theorem rot_pl(p:List Int){f:Nat}(hf:f≤p.length)(h1:1≤p.length)(i:Int):pl (rotI p f) i=pl p (i+f):=by
 have hb1:=Int.emod_nonneg i (show(p.length:Int)≠0 by omega)
 have hb2:=Int.emod_lt_of_pos i (show(0:Int)<p.length by omega)
 have:=rot_at p hf (i:=(i % (p.length:Int)).toNat) (by omega)
 unfold at' at this
 unfold pl
 rw[zDu,this]
 congr 3
 have e:(((i % (p.length:Int)).toNat+f:Nat):Int) % (p.length:Int)=(i+f) % (p.length:Int):=by
  rw[show(((i % (p.length:Int)).toNat+f:Nat):Int)=i % (p.length:Int)+f by omega,Int.emod_add_emod]
 rw[←e,←Int.natCast_emod,Int.toNat_natCast]
def rotN(l:Ln)(f:Nat):Ln:=⟨rotI l.slots f,l.left,l.right,l.run⟩
theorem rot_vl(h:VL l)(f:Nat):VL (rotN l f):=by
 have hn:=h.n
 have hm:∀x,x∈rotI l.slots f↔x∈l.slots:=fun x=>by
  unfold rotI
  rw[List.mem_append,Or.comm,←List.mem_append,List.take_append_drop]
 refine⟨by show 1≤(rotI l.slots f).length∧(rotI l.slots f).length≤16;rw[zDu];exact hn,h.rn,fun x hx=>h.tn x ((hm x).1 hx),h.lf,h.rt,?_⟩
 obtain⟨i,hi,hs⟩:=h.st
 unfold strF at hs
 rw[Bool.not_eq_true',decide_eq_false_iff_not]at hs
 have hil:=str_lt hs
 have hin:at' l.slots i∈rotI l.slots f:=(hm _).2 (by unfold at';rw[List.getElem?_eq_getElem hil];exact List.getElem_mem hil)
 obtain⟨j,hj,e⟩:=List.mem_iff_getElem.1 hin
 have hjl:j<l.slots.length:=by rw[zDu]at hj;exact hj
 refine⟨j,by omega,?_⟩
 unfold strF
 have:at' (rotN l f).slots j=at' l.slots i:=by
  show at' (rotI l.slots f) j=_
  rw[←e]
  show((rotI l.slots f)[j]?).getD (-1)=_
  rw[List.getElem?_eq_getElem hj];rfl
 rw[this,kG hs];rfl
theorem div_rot{p:List Int}{f:Nat}(h:VL l)(hf:f≤l.slots.length)(hp:divB l p=true):divB (rotN l f) (rotI p f)=true:=by
 obtain⟨h1,h2,h3⟩:=wo.1 hp
 have hn:=h.n
 have e:(rotN l f).slots.length=l.slots.length:=zDu _ _
 refine wo.2 ⟨by rw[zDu,e,h1],fun i hi=>?_,fun who h0 i hw=>?_⟩
 ·rw[e]at hi
  show tokB l _ (at' (rotI l.slots f) i)=true
  rw[rot_at l.slots hf hi,rot_at p (by omega) (by omega),h1]
  exact h2 _ (Nat.mod_lt _ (by omega))
 ·refine h3 who h0 (i+f) fun j hj=>?_
  have:=of_decide_eq_true (hw j hj)
  rw[rot_pl p (by omega) (by omega)]at this
  rw[show i+f+j=i+j+f by omega]
  exact kF this
theorem many_rot(h:VL l){f:Nat}(hf:f≤l.slots.length):(splL (rotN l f)).length=(splL l).length:=by
 have hv:=rot_vl h f
 have e:(rotN l f).slots.length=l.slots.length:=zDu _ _
 have hback:rotN (rotN l f) (l.slots.length - f)=l:=by
  show(⟨rotI (rotI l.slots f) (l.slots.length - f),l.left,l.right,l.run⟩:Ln)=l
  rw[rot_rot l.slots hf]
 refine Nat.le_antisymm (zDy hv h (fun p=>rotI p (l.slots.length - f)) (fun p=>rotI p f) fun p hp=>?_) (zDy h hv (fun p=>rotI p f) (fun p=>rotI p (l.slots.length - f)) fun p hp=>?_)
 ·have:=div_rot hv (f:=l.slots.length - f) (by omega) hp
  rw[hback]at this
  have hl:=(wo.1 hp).1
  have:=rot_rot p (f:=l.slots.length - f) (by omega)
  rw[show p.length - (l.slots.length - f)=f by omega]at this
  exact⟨‹_›,this⟩
 ·have hl:=(wo.1 hp).1
  refine⟨div_rot h hf hp,?_⟩
  have:=rot_rot p (f:=f) (by omega)
  rw[hl]at this;exact this
end
end Go.Proofs.YthhbfbmfhldbaaaDoor.locks
