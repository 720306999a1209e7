import Derived.Test.YtinhcdijbcamaaaVamT4
set_option linter.unusedVariables false
set_option linter.unusedSimpArgs false
set_option linter.constructorNameAsVariable false
namespace Go.Proofs.Ytinhcdijbcamaaa.tuneNarrower
open Vam
variable {is:FuncId→Bool}{orc:Known}
theorem wn(f:Nat→Bool)(k:Nat):Dat (k+2) (.agg (bl8 f)):=.agg _ _ fun c hc=>by
 simp only[List.mem_cons,List.not_mem_nil,or_false]at hc
 rcases hc with rfl|rfl|rfl|rfl|rfl|rfl|rfl|rfl<;>exact .bool _ _
theorem uB(f:Nat→Bool){n:Nat}(h:n<8):(bl8 f)[0+(n:Int).toNat*1]? =some (.bool (f n)):=bl8_at f (x:=(n:Int)) (by omega)
theorem bl8_ltN{n:Nat}(h:n<8):Nat.blt (0+(n:Int).toNat*1) 8=true:=bl8_lt (x:=(n:Int)) (by omega)
theorem wq(f:Nat→Bool){n:Nat}(h:n<8)(b:Bool):(bl8 f).set (0+(n:Int).toNat*1) (.bool b)=bl8 (updB f n b):=bl8_set f (x:=(n:Int)) (by omega) b
def mixB(n:Nat)(f g:Nat→Bool):Nat→Bool:=fun i=>if i<n then g i else f i
theorem mixB_at(n:Nat)(f g:Nat→Bool):mixB n f g n=f n:=by unfold mixB;rw[if_neg (Nat.lt_irrefl n)]
theorem wc{n:Nat}{f g:Nat→Bool}{b:Bool}(h:g n=b):updB (mixB n f g) n b=mixB (n+1) f g:=by
 funext i
 unfold updB mixB
 by_cases e:i=n
 ·subst e;rw[if_pos rfl,if_pos (by omega),h]
 ·rw[if_neg e]
  by_cases e2:i<n
  ·rw[if_pos e2,if_pos (by omega)]
  ·rw[if_neg e2,if_neg (by omega)]
theorem mixB_end(f g:Nat→Bool):bl8 (mixB 8 f g)=bl8 g:=uW fun i hi=>if_pos hi
set_option maxHeartbeats 4000000 in
theorem ret102(hi:Off is)(f g:Nat→Bool):RetP Try.prog is orc 102 [.agg (bl8 f),.agg (bl8 g)] (.agg (bl8 fun i=>f i&&g i)):=by
 refine yQ body102 pure102 (hi 102 (by decide)) rfl rfl (z4 (wn f 6) (wn g 6)) (.inl (wn _ _)) ?_
 refine kQ (yH rfl rfl (yH rfl rfl (zV rfl uQ ?_)))
 refine zB ?_
 refine zM [(2,.box 0 0),(3,.box 1 0),(4,.box 2 0)] ([SB.box [U.bool (f 0),U.bool (f 1),U.bool (f 2),U.bool (f 3),U.bool (f 4),U.bool (f 5),U.bool (f 6),U.bool (f 7)],SB.box [U.bool (g 0),U.bool (g 1),U.bool (g 2),U.bool (g 3),U.bool (g 4),U.bool (g 5),U.bool (g 6),U.bool (g 7)],SB.box [.bool false,.bool false,.bool false,.bool false,.bool false,.bool false,.bool false,.bool false]]) (.c2 rfl rfl (.cons rfl (.nil rfl))) rfl fun fr=>?_
 refine k_seq (kQ (zA rfl (zB (zP ?_))))
 refine k_loop (fun k st=>∃n:Nat,k+n=8∧st.st=[.box (bl8 (mixB n f fun i=>f i&&g i)),.box (bl8 g),.box (bl8 fun _=>false)]∧Holds st [(2,.box 0 0),(3,.box 1 0),(4,.box 2 0),(6,.int .i64 n)]) (fun k st hI=>?_) 8 _ ?_
 ·obtain⟨n,hk,hst,hs⟩:=hI
  refine zM _ _ hs hst fun fr=>?_
  by_cases hn:n<8
  ·have ha:=uB (mixB n f fun i=>f i&&g i) hn
   rw[mixB_at]at ha
   have hg:=uB g hn
   have hlt:=bl8_ltN hn
   cases hf:f n with
   |false=>
    rw[hf]at ha
    have hse:=(wq (mixB n f fun i=>f i&&g i) hn false).trans (congrArg bl8 (wc (show(f n&&g n)=false by rw[hf];rfl)))
    refine kQ (zt rfl rfl rfl (zB (k_seq (k_cT rfl (decide_eq_true (by omega)) (zW (k_seq (zP (kQ ?_))))))))
    refine zA rfl (zC rfl (zB (k_region (zA rfl (zA rfl (yu rfl wT rfl rfl (by omega) (by omega) cl4 ?_))))))
    refine zF rfl rfl rfl sh4 ha ?_
    refine zA rfl (o_gS rfl rfl rfl rfl rfl (o_gS rfl rfl rfl rfl rfl (o_gS rfl rfl rfl rfl rfl (zQ rfl rfl rfl ?_))))
    refine yu rfl wT rfl rfl (by omega) (by omega) cl4 ?_
    refine o_store1 rfl rfl sh4 hlt rfl ?_
    refine zB ?_
    refine zM [(2,.box 0 0),(3,.box 1 0),(4,.box 2 0),(6,.int .i64 ↑n),(14,.tup []),(15,.tup []),(16,.tup [])] ([SB.box (List.set (bl8 (mixB n f fun i ↦ f i&&g i)) (0+Int.toNat ↑n*1) (.bool false)),SB.box (bl8 g),SB.box (bl8 fun x ↦ Bool.false)]) (.c4 rfl rfl rfl rfl (.c2 rfl rfl (.cons rfl (.nil rfl)))) rfl fun fr=>?_
    refine k_region ?_
    refine o_add rfl rfl rfl (by unfold I64;omega) (zA rfl (zB ?_))
    exact⟨k - 1,by omega,n+1,by omega,congrArg (fun c=>[SB.box c,SB.box (bl8 g),SB.box (bl8 fun _=>false)]) hse,.c4 rfl rfl rfl rfl (.nil rfl)⟩
   |true=>
    rw[hf]at ha
    have hse:=(wq (mixB n f fun i=>f i&&g i) hn (g n)).trans (congrArg bl8 (wc (show(f n&&g n)=g n by rw[hf];rfl)))
    refine kQ (zt rfl rfl rfl (zB (k_seq (k_cT rfl (decide_eq_true (by omega)) (zW (k_seq (zP (kQ ?_))))))))
    refine zA rfl (zC rfl (zB (k_region (zA rfl (zA rfl (yu rfl wT rfl rfl (by omega) (by omega) cl4 ?_))))))
    refine zF rfl rfl rfl sh4 ha ?_
    refine zA rfl (o_gD rfl rfl rfl rfl rfl (zA rfl (o_gD rfl rfl rfl rfl rfl (yu rfl wT rfl rfl (by omega) (by omega) cl4 ?_))))
    refine o_gD rfl rfl rfl rfl rfl (zF rfl rfl rfl sh4 hg ?_)
    refine zT rfl rfl rfl ?_
    refine yu rfl wT rfl rfl (by omega) (by omega) cl4 ?_
    refine o_store1 rfl rfl sh4 hlt rfl ?_
    refine zB ?_
    refine zM [(2,.box 0 0),(3,.box 1 0),(4,.box 2 0),(6,.int .i64 ↑n),(14,.int .i64 ↑n),(15,.box 1 (0+Int.toNat ↑n*1)),(16,.bool (g n))] ([SB.box (List.set (bl8 (mixB n f fun i ↦ f i&&g i)) (0+Int.toNat ↑n*1) (U.bool (g n))),SB.box (bl8 g),SB.box (bl8 fun x ↦ Bool.false)]) (.c4 rfl rfl rfl rfl (.c2 rfl rfl (.cons rfl (.nil rfl)))) rfl fun fr=>?_
    refine k_region ?_
    refine o_add rfl rfl rfl (by unfold I64;omega) (zA rfl (zB ?_))
    exact⟨k - 1,by omega,n+1,by omega,congrArg (fun c=>[SB.box c,SB.box (bl8 g),SB.box (bl8 fun _=>false)]) hse,.c4 rfl rfl rfl rfl (.nil rfl)⟩
  ·have hn:n=8:=by omega
   subst hn
   rw[mixB_end]
   refine kQ (zt rfl rfl rfl (zB (k_seq (k_cF rfl rfl ?_))))
   refine yp (kQ (zK rfl rfl rfl wF rfl (zN rfl rfl wF rfl rfl rfl rfl rfl ?_)))
   refine zB (ze ?_)
   refine⟨.inr rfl,_,.cons _ _ _ _ (.cellN 4 122 _ _ _ _ rfl rfl wF rfl) .nil,?_⟩
   exact .refl _
 ·exact⟨0,rfl,rfl,.c4 rfl rfl rfl rfl (.nil rfl)⟩
set_option maxHeartbeats 4000000 in
theorem ret103(hi:Off is)(f g:Nat→Bool):RetP Try.prog is orc 103 [.agg (bl8 f),.agg (bl8 g)] (.agg (bl8 fun i=>f i||g i)):=by
 refine yQ body103 pure103 (hi 103 (by decide)) rfl rfl (z4 (wn f 6) (wn g 6)) (.inl (wn _ _)) ?_
 refine kQ (yH rfl rfl (yH rfl rfl (zV rfl uQ ?_)))
 refine zB ?_
 refine zM [(2,.box 0 0),(3,.box 1 0),(4,.box 2 0)] ([SB.box [U.bool (f 0),U.bool (f 1),U.bool (f 2),U.bool (f 3),U.bool (f 4),U.bool (f 5),U.bool (f 6),U.bool (f 7)],SB.box [U.bool (g 0),U.bool (g 1),U.bool (g 2),U.bool (g 3),U.bool (g 4),U.bool (g 5),U.bool (g 6),U.bool (g 7)],SB.box [.bool false,.bool false,.bool false,.bool false,.bool false,.bool false,.bool false,.bool false]]) (.c2 rfl rfl (.cons rfl (.nil rfl))) rfl fun fr=>?_
 refine k_seq (kQ (zA rfl (zB (zP ?_))))
 refine k_loop (fun k st=>∃n:Nat,k+n=8∧st.st=[.box (bl8 (mixB n f fun i=>f i||g i)),.box (bl8 g),.box (bl8 fun _=>false)]∧Holds st [(2,.box 0 0),(3,.box 1 0),(4,.box 2 0),(6,.int .i64 n)]) (fun k st hI=>?_) 8 _ ?_
 ·obtain⟨n,hk,hst,hs⟩:=hI
  refine zM _ _ hs hst fun fr=>?_
  by_cases hn:n<8
  ·have ha:=uB (mixB n f fun i=>f i||g i) hn
   rw[mixB_at]at ha
   have hg:=uB g hn
   have hlt:=bl8_ltN hn
   cases hf:f n with
   |true=>
    rw[hf]at ha
    have hse:=(wq (mixB n f fun i=>f i||g i) hn true).trans (congrArg bl8 (wc (show(f n||g n)=true by rw[hf];rfl)))
    refine kQ (zt rfl rfl rfl (zB (k_seq (k_cT rfl (decide_eq_true (by omega)) (zW (k_seq (zP (kQ ?_))))))))
    refine zA rfl (zC rfl (zB (k_region (zA rfl (zA rfl (yu rfl wT rfl rfl (by omega) (by omega) cl4 ?_))))))
    refine zF rfl rfl rfl sh4 ha ?_
    refine zA rfl (o_gS rfl rfl rfl rfl rfl (o_gS rfl rfl rfl rfl rfl (o_gS rfl rfl rfl rfl rfl (zT rfl rfl rfl ?_))))
    refine yu rfl wT rfl rfl (by omega) (by omega) cl4 ?_
    refine o_store1 rfl rfl sh4 hlt rfl ?_
    refine zB ?_
    refine zM [(2,.box 0 0),(3,.box 1 0),(4,.box 2 0),(6,.int .i64 ↑n),(14,.tup []),(15,.tup []),(16,.tup [])] ([SB.box (List.set (bl8 (mixB n f fun i ↦ f i||g i)) (0+Int.toNat ↑n*1) (.bool true)),SB.box (bl8 g),SB.box (bl8 fun x ↦ Bool.false)]) (.c4 rfl rfl rfl rfl (.c2 rfl rfl (.cons rfl (.nil rfl)))) rfl fun fr=>?_
    refine k_region ?_
    refine o_add rfl rfl rfl (by unfold I64;omega) (zA rfl (zB ?_))
    exact⟨k - 1,by omega,n+1,by omega,congrArg (fun c=>[SB.box c,SB.box (bl8 g),SB.box (bl8 fun _=>false)]) hse,.c4 rfl rfl rfl rfl (.nil rfl)⟩
   |false=>
    rw[hf]at ha
    have hse:=(wq (mixB n f fun i=>f i||g i) hn (g n)).trans (congrArg bl8 (wc (show(f n||g n)=g n by rw[hf];rfl)))
    refine kQ (zt rfl rfl rfl (zB (k_seq (k_cT rfl (decide_eq_true (by omega)) (zW (k_seq (zP (kQ ?_))))))))
    refine zA rfl (zC rfl (zB (k_region (zA rfl (zA rfl (yu rfl wT rfl rfl (by omega) (by omega) cl4 ?_))))))
    refine zF rfl rfl rfl sh4 ha ?_
    refine zA rfl (o_gD rfl rfl rfl rfl rfl (zA rfl (o_gD rfl rfl rfl rfl rfl (yu rfl wT rfl rfl (by omega) (by omega) cl4 ?_))))
    refine o_gD rfl rfl rfl rfl rfl (zF rfl rfl rfl sh4 hg ?_)
    refine zQ rfl rfl rfl ?_
    refine yu rfl wT rfl rfl (by omega) (by omega) cl4 ?_
    refine o_store1 rfl rfl sh4 hlt rfl ?_
    refine zB ?_
    refine zM [(2,.box 0 0),(3,.box 1 0),(4,.box 2 0),(6,.int .i64 ↑n),(14,.int .i64 ↑n),(15,.box 1 (0+Int.toNat ↑n*1)),(16,.bool (g n))] ([SB.box (List.set (bl8 (mixB n f fun i ↦ f i||g i)) (0+Int.toNat ↑n*1) (U.bool (g n))),SB.box (bl8 g),SB.box (bl8 fun x ↦ Bool.false)]) (.c4 rfl rfl rfl rfl (.c2 rfl rfl (.cons rfl (.nil rfl)))) rfl fun fr=>?_
    refine k_region ?_
    refine o_add rfl rfl rfl (by unfold I64;omega) (zA rfl (zB ?_))
    exact⟨k - 1,by omega,n+1,by omega,congrArg (fun c=>[SB.box c,SB.box (bl8 g),SB.box (bl8 fun _=>false)]) hse,.c4 rfl rfl rfl rfl (.nil rfl)⟩
  ·have hn:n=8:=by omega
   subst hn
   rw[mixB_end]
   refine kQ (zt rfl rfl rfl (zB (k_seq (k_cF rfl rfl ?_))))
   refine yp (kQ (zK rfl rfl rfl wF rfl (zN rfl rfl wF rfl rfl rfl rfl rfl ?_)))
   refine zB (ze ?_)
   refine⟨.inr rfl,_,.cons _ _ _ _ (.cellN 4 122 _ _ _ _ rfl rfl wF rfl) .nil,?_⟩
   exact .refl _
 ·exact⟨0,rfl,rfl,.c4 rfl rfl rfl rfl (.nil rfl)⟩
end Go.Proofs.Ytinhcdijbcamaaa.tuneNarrower
namespace Vam
open Go
section
variable {P:Program}{is:FuncId→Bool}{orc:Known}{s:St}{all l:List Oper}{d:Nat}{t t':TypeId}{p:String}{e:Array Edge}{Q:St→Prop}{x:Operand}{a off:Nat}{cs us:List U}
theorem o_loadNW{n:Nat}(hd:Nat.blt d 1024=true)(hx:zR s x=.box a off)(hb:s.st[a]? =some (.box cs))(hsh:shOf P t'=.many n)(hc:off+n≤cs.length)(hw:(cs.drop off).take n=us)(k:WpO P is orc all l (s.put d (.agg us)) Q):
  WpO P is orc all (⟨some d,.load t' x,t,p,e,none⟩::l) s Q:=by
 subst hw
 exact zK hd hx hb hsh (by rw[Nat.ble_eq];exact hc) k
end
end Vam
namespace Go.Proofs.Ytinhcdijbcamaaa.tuneNarrower
open Vam
abbrev bl64(G:Nat→Nat→Bool):List U:=bl8 (G 0)++(bl8 (G 1)++(bl8 (G 2)++(bl8 (G 3)++(bl8 (G 4)++(bl8 (G 5)++(bl8 (G 6)++bl8 (G 7)))))))
theorem bl64_row(G:Nat→Nat→Bool){x:Int}(h:0≤x∧x<8):((bl64 G).drop (0+x.toNat*8)).take 8=bl8 (G x.toNat):=by
 rcases lt8 h with e|e|e|e|e|e|e|e<;>rw[e]<;>rfl
theorem wt(G:Nat→Nat→Bool):(bl64 G).length=64:=rfl
def updR(G:Nat→Nat→Bool)(k:Nat)(row:Nat→Bool):Nat→Nat→Bool:=fun i=>if i=k then row else G i
theorem bl64_put(G:Nat→Nat→Bool)(row:Nat→Bool){n:Nat}(h:n<8):(bl64 G).take (0+(n:Int).toNat*8)++(bl8 row).map dg++(bl64 G).drop (0+(n:Int).toNat*8+8)=bl64 (updR G n row):=by
 have e:n=0∨n=1∨n=2∨n=3∨n=4∨n=5∨n=6∨n=7:=by omega
 rcases e with rfl|rfl|rfl|rfl|rfl|rfl|rfl|rfl<;>rfl
theorem bl64_set(G:Nat→Nat→Bool){n:Nat}(h:n<8)(b:Bool):(bl64 G).set (0+(n:Int).toNat*8+(n:Int).toNat*1) (.bool b)=bl64 (updR G n (updB (G n) n b)):=by
 have e:n=0∨n=1∨n=2∨n=3∨n=4∨n=5∨n=6∨n=7:=by omega
 rcases e with rfl|rfl|rfl|rfl|rfl|rfl|rfl|rfl<;>rfl
def ug(f:Nat→Bool):Bool:=f 0||f 1||f 2||f 3||f 4||f 5||f 6||f 7
theorem anyB8_iff{f:Nat→Bool}:ug f=true↔ ∃i,i<8∧f i=true:=by
 unfold ug
 simp only[Bool.or_eq_true]
 constructor
 ·rintro(((((((h|h)|h)|h)|h)|h)|h)|h)
  ·exact⟨0,by decide,h⟩
  ·exact⟨1,by decide,h⟩
  ·exact⟨2,by decide,h⟩
  ·exact⟨3,by decide,h⟩
  ·exact⟨4,by decide,h⟩
  ·exact⟨5,by decide,h⟩
  ·exact⟨6,by decide,h⟩
  ·exact⟨7,by decide,h⟩
 ·rintro⟨i,hi,h⟩
  have e:i=0∨i=1∨i=2∨i=3∨i=4∨i=5∨i=6∨i=7:=by omega
  rcases e with rfl|rfl|rfl|rfl|rfl|rfl|rfl|rfl<;>simp[h]
theorem neq_bl8(f:Nat→Bool):binV Try.prog 122 .neq (valK (.agg (bl8 f))) (valK (.agg (bl8 fun _=>false)))=some (.bool (ug f)):=by
 have h:binV Try.prog 122 .neq (valK (.agg (bl8 f))) (valK (.agg (bl8 fun _=>false)))=opt none (fun x=>some (V.bool (not x))) (Vam.cond (bEq (f 0) false) (Vam.cond (bEq (f 1) false) (Vam.cond (bEq (f 2) false) (Vam.cond (bEq (f 3) false) (Vam.cond (bEq (f 4) false) (Vam.cond (bEq (f 5) false) (Vam.cond (bEq (f 6) false) (Vam.cond (bEq (f 7) false) (some true) (some false)) (some false)) (some false)) (some false)) (some false)) (some false)) (some false)) (some false)):=by kernel_rfl
 rw[h]
 unfold ug
 generalize f 0=b0
 generalize f 1=b1
 generalize f 2=b2
 generalize f 3=b3
 generalize f 4=b4
 generalize f 5=b5
 generalize f 6=b6
 generalize f 7=b7
 cases b0
 ·cases b1
  ·cases b2
   ·cases b3
    ·cases b4
     ·cases b5
      ·cases b6
       ·cases b7<;>rfl
       ·rfl
      ·rfl
     ·rfl
    ·rfl
   ·rfl
  ·rfl
 ·rfl
theorem conn_snoc{E:Es}{a b x y:Int}:Conn (E++[(a,b)]) x y↔Conn E x y∨((Conn E a x∨Conn E b x)∧(Conn E a y∨Conn E b y)):=by
 have hm:∀e∈E,e∈E++[(a,b)]:=fun e he=>List.mem_append_left _ he
 have hab:Conn (E++[(a,b)]) a b:=.one (.inl (List.mem_append_right _ (List.mem_singleton.2 rfl)))
 constructor
 ·intro h
  induction h with
  |refl=>exact .inl (.refl _)
  |step _ ha ih=>
   rcases wu ha with ha|⟨rfl,rfl⟩|⟨rfl,rfl⟩
   ·rcases ih with ih|⟨h1,h2⟩
    ·exact .inl (.step ih ha)
    ·exact .inr ⟨h1,h2.imp (fun h=>.step h ha) (fun h=>.step h ha)⟩
   ·rcases ih with ih|⟨h1,_⟩
    ·exact .inr ⟨.inl ih.symm,.inr (.refl _)⟩
    ·exact .inr ⟨h1,.inr (.refl _)⟩
   ·rcases ih with ih|⟨h1,_⟩
    ·exact .inr ⟨.inr ih.symm,.inl (.refl _)⟩
    ·exact .inr ⟨h1,.inl (.refl _)⟩
 ·rintro(h|⟨h1,h2⟩)
  ·exact h.mono hm
  ·have h1:Conn (E++[(a,b)]) a x:=h1.elim (fun h=>h.mono hm) (fun h=>hab.trans (h.mono hm))
   have h2:Conn (E++[(a,b)]) a y:=h2.elim (fun h=>h.mono hm) (fun h=>hab.trans (h.mono hm))
   exact h1.symm.trans h2
theorem Acy.pre'{q:Es}(h:Acy q):∀{E F:Es},q=E++F→Acy E:=by
 induction h with
 |nil=>
  intro E F e
  have:E=[]:=by cases E with
   |nil=>rfl
   |cons=>cases e
  subst this;exact .nil
 |@snoc E0 a b h1 h2 ih=>
  intro E F e
  rcases List.eq_nil_or_concat F with rfl|⟨L,x,rfl⟩
  ·rw[List.append_nil]at e;subst e;exact .snoc h1 h2
  ·rw[List.concat_eq_append,←List.append_assoc]at e
   obtain⟨e1,_⟩:=List.append_inj' e rfl
   exact ih e1
theorem Acy.pre{E F:Es}(h:Acy (E++F)):Acy E:=h.pre' rfl
theorem Acy.last{E:Es}{a b:Int}(h:Acy (E++[(a,b)])): ¬ Conn E a b:=by
 generalize hq:E++[(a,b)]=q at h
 cases h with
 |nil=>simp at hq
 |snoc h1 h2=>
  obtain⟨rfl,h3⟩:=List.append_inj' hq rfl
  cases h3
  exact h2
open Classical in
noncomputable def uK(J:List Jn):Bool:= !decide (Acy (EJ J))
def Rep(E:Es)(G:Nat→Nat→Bool):Prop:=∀i,i<8→∀j,j<8→(G i j=true↔Conn E i j)
def whole(G:Nat→Nat→Bool)(a b:Nat):Nat→Bool:=fun m=>G a m||G b m
def wU(G:Nat→Nat→Bool)(w:Nat→Bool)(n:Nat):Nat→Nat→Bool:=fun k=>if k<n∧w k=true then w else G k
theorem Rep.meet{E:Es}{G:Nat→Nat→Bool}(h:Rep E G){a b:Nat}(ha:a<8)(hb:b<8):ug (fun i=>G a i&&G b i)=true↔Conn E a b:=by
 rw[anyB8_iff]
 constructor
 ·rintro⟨i,hi,h1⟩
  rw[Bool.and_eq_true]at h1
  exact((h a ha i hi).1 h1.1).trans ((h b hb i hi).1 h1.2).symm
 ·intro hc
  exact⟨b,hb,by rw[Bool.and_eq_true];exact⟨(h a ha b hb).2 hc,(h b hb b hb).2 (.refl _)⟩⟩
theorem Rep.join{E:Es}{G:Nat→Nat→Bool}(h:Rep E G){a b:Nat}(ha:a<8)(hb:b<8):Rep (E++[((a:Int),(b:Int))]) (wU G (whole G a b) 8):=by
 intro i hi j hj
 have hw:∀m,m<8→(whole G a b m=true↔Conn E a m∨Conn E b m):=fun m hm=>by
  unfold whole
  rw[Bool.or_eq_true,h a ha m hm,h b hb m hm]
 rw[conn_snoc]
 unfold wU
 by_cases hwi:whole G a b i=true
 ·rw[if_pos ⟨hi,hwi⟩,hw j hj]
  have h1:=(hw i hi).1 hwi
  constructor
  ·exact fun h2=>.inr ⟨h1,h2⟩
  ·rintro(h2|⟨_,h2⟩)
   ·exact h1.imp (fun h=>h.trans h2) (fun h=>h.trans h2)
   ·exact h2
 ·rw[if_neg (fun h=>hwi h.2),h i hi j hj]
  constructor
  ·exact .inl
  ·rintro(h2|⟨h1,_⟩)
   ·exact h2
   ·exact absurd ((hw i hi).2 h1) hwi
theorem step8_succ{G:Nat→Nat→Bool}{w:Nat→Bool}{n:Nat}(h:w n=true):updR (wU G w n) n w=wU G w (n+1):=by
 funext i
 unfold updR wU
 by_cases e:i=n
 ·subst e;rw[if_pos rfl,if_pos ⟨by omega,h⟩]
 ·rw[if_neg e]
  by_cases e2:i<n∧w i=true
  ·rw[if_pos e2,if_pos ⟨by omega,e2.2⟩]
  ·rw[if_neg e2,if_neg (fun e3=>e2 ⟨by omega,e3.2⟩)]
theorem step8_skip{G:Nat→Nat→Bool}{w:Nat→Bool}{n:Nat}(h:w n=false):wU G w n=wU G w (n+1):=by
 funext i
 unfold wU
 by_cases e2:i<n∧w i=true
 ·rw[if_pos e2,if_pos ⟨by omega,e2.2⟩]
 ·rw[if_neg e2,if_neg (fun e3=>e2 ⟨by
   have:i≠n:=fun e=>by subst e;rw[h]at e3;cases e3.2
   omega,e3.2⟩)]
theorem step8_zero(G:Nat→Nat→Bool)(w:Nat→Bool):wU G w 0=G:=by funext i;unfold wU;rw[if_neg (by omega)]
def diag(n:Nat):Nat→Nat→Bool:=fun i j=>decide (i=j)&&decide (i<n)
theorem diag_succ(n:Nat):updR (diag n) n (updB (diag n n) n true)=diag (n+1):=by
 funext i j
 unfold updR updB diag
 by_cases e:i=n
 ·subst e
  rw[if_pos rfl]
  by_cases e2:j=i
  ·subst e2;simp
  ·rw[if_neg e2]
   have: ¬ i=j:=fun h=>e2 h.symm
   simp[this]
 ·rw[if_neg e]
  by_cases e2:i=j
  ·subst e2
   by_cases e3:i<n
   ·simp[e3,Nat.lt_succ_of_lt e3]
   ·have: ¬ i<n+1:=by omega
    simp[e3,this]
  ·simp[e2]
theorem rep_diag:Rep [] (diag 8):=by
 intro i hi j hj
 unfold diag
 constructor
 ·intro h
  simp at h
  rw[h.1];exact .refl _
 ·intro h
  have:∀{x y:Int},Conn [] x y→x=y:=by
   intro x y h
   induction h with
   |refl=>rfl
   |step _ ha _=>rcases ha with ha|ha<;>cases ha
  have:=this h
  have:i=j:=by omega
  subst this
  simp[hi]
end Go.Proofs.Ytinhcdijbcamaaa.tuneNarrower
namespace Go.Proofs.Ytinhcdijbcamaaa.tuneNarrower
open Vam
variable {is:FuncId→Bool}{orc:Known}
theorem cl122:Program.cellsOf Try.prog 122=8:=by kernel_rfl
theorem pl122:plcOf Try.prog 122=some [(0,1),(1,1),(2,1),(3,1),(4,1),(5,1),(6,1),(7,1)]:=by kernel_rfl
theorem ty129:tyOf Try.prog 129=.array 8 122:=by kernel_rfl
theorem ze129:yR Try.prog 129=some ((.cons (.bool false) (.cons (.bool false) (.cons (.bool false) (.cons (.bool false) (.cons (.bool false) (.cons (.bool false) (.cons (.bool false) (.cons (.bool false) (.cons (.bool false) (.cons (.bool false) (.cons (.bool false) (.cons (.bool false) (.cons (.bool false) (.cons (.bool false) (.cons (.bool false) (.cons (.bool false) (.cons (.bool false) (.cons (.bool false) (.cons (.bool false) (.cons (.bool false) (.cons (.bool false) (.cons (.bool false) (.cons (.bool false) (.cons (.bool false) (.cons (.bool false) (.cons (.bool false) (.cons (.bool false) (.cons (.bool false) (.cons (.bool false) (.cons (.bool false) (.cons (.bool false) (.cons (.bool false) (.cons (.bool false) (.cons (.bool false) (.cons (.bool false) (.cons (.bool false) (.cons (.bool false) (.cons (.bool false) (.cons (.bool false) (.cons (.bool false) (.cons (.bool false) (.cons (.bool false) (.cons (.bool false) (.cons (.bool false) (.cons (.bool false) (.cons (.bool false) (.cons (.bool false) (.cons (.bool false) (.cons (.bool false) (.cons (.bool false) (.cons (.bool false) (.cons (.bool false) (.cons (.bool false) (.cons (.bool false) (.cons (.bool false) (.cons (.bool false) (.cons (.bool false) (.cons (.bool false) (.cons (.bool false) (.cons (.bool false) (.cons (.bool false) (.cons (.bool false) (.cons (.bool false) (.cons (.bool false) .nil)))))))))))))))))))))))))))))))))))))))))))))))))))))))))))))))):V):=by kernel_rfl
noncomputable def b86:Code:=(Try.f86.body).getD .skip
theorem body86:bodyOf Try.prog 86=some (53,b86,[.tmp 2]):=by kernel_rfl
theorem pure86:pureFn Try.prog 86=true:=by kernel_rfl
theorem ue{l:List SB}{i:Nat}{x:SB}(h:l[i]? =some x):i<l.length:=(List.getElem?_eq_some_iff.1 h).1
theorem at_put{l:List SB}{i:Nat}{x y:SB}(h:l[i]? =some x):(l.set i y)[i]? =some y:=by rw[List.getElem?_set_self (ue h)]
theorem z5{l:List SB}{i j:Nat}{x y:SB}(h:l[i]? =some x)(hj:j≠i):(l.set j y)[i]? =some x:=by rw[List.getElem?_set_ne hj,h]
theorem set_mid(L:List SB)(x y z:SB):((L++[x])++[y]).set L.length z=(L++[z])++[y]:=by
 rw[List.append_assoc,List.set_append_right _ _ (Nat.le_refl _),Nat.sub_self,List.append_assoc];rfl
theorem neq_bl8'(f g:Nat→Bool):binV Try.prog 122 .neq (valK (.agg (bl8 fun i=>f i&&g i))) (valK (.agg (bl8 fun _=>false)))=some (.bool (ug fun i=>f i&&g i)):=neq_bl8 _
set_option maxHeartbeats 16000000 in
theorem ret86(hi:Off is)(J:List Jn)(hl:J.length≤64)(hr:∀j∈J,(0≤j.one∧j.one<8)∧(0≤j.two∧j.two<8)):RetP Try.prog is orc 86 [.lst .ro 5 (jnsU J)] (.bool (uK J)):=by
 refine yQ body86 pure86 (hi 86 (by decide)) rfl rfl (y6 (ud J .ro (fun h=>by cases h) 6)) (.inl (.bool _ _)) ?_
 refine kQ (zC rfl (zB (kQ (zV rfl ze129 ?_))))
 refine zB ?_
 refine zM [(0,.lst .ro 5 (jnsU J)),(3,U.box 0 0)] ([SB.box (.bool false::.bool false::.bool false::.bool false::.bool false::.bool false::.bool false::.bool false::.bool false::.bool false::.bool false::.bool false::.bool false::.bool false::.bool false::.bool false::.bool false::.bool false::.bool false::.bool false::.bool false::.bool false::.bool false::.bool false::.bool false::.bool false::.bool false::.bool false::.bool false::.bool false::.bool false::.bool false::.bool false::.bool false::.bool false::.bool false::.bool false::.bool false::.bool false::.bool false::.bool false::.bool false::.bool false::.bool false::.bool false::.bool false::.bool false::.bool false::.bool false::.bool false::.bool false::.bool false::.bool false::.bool false::.bool false::uOf (V.bool Bool.false)::uList (V.cons (V.bool Bool.false) (V.cons (V.bool Bool.false) (V.cons (V.bool Bool.false) (V.cons (V.bool Bool.false) (V.cons (V.bool Bool.false) (V.cons (V.bool Bool.false) (V.cons (V.bool Bool.false) (V.cons (V.bool Bool.false) V.nil)))))))))]) (.c2 rfl rfl (.nil rfl)) rfl fun fr=>?_
 refine k_seq (kQ (zA rfl (zB (zP ?_))))
 refine k_loop (fun k st=>∃n:Nat,k+n=8∧st.st=[.box (bl64 (diag n))]∧Holds st [(0,.lst .ro 5 (jnsU J)),(3,.box 0 0),(12,.int .i64 n)]) (fun k st hI=>?_) 8 _ ?_
 ·obtain⟨n,hk,hst,hs⟩:=hI
  refine zM _ _ hs hst fun fr=>?_
  by_cases hn:n<8
  ·have hse:=(bl64_set (diag n) hn true).trans (congrArg bl64 (diag_succ n))
   have hlt:Nat.blt (0+(n:Int).toNat*8+(n:Int).toNat*1) (bl64 (diag n)).length=true:=by rw[wt,Nat.blt_eq];omega
   refine kQ (zt rfl rfl rfl (zB (k_seq (k_cT rfl (decide_eq_true (by omega)) (zW (k_seq (zP (kQ ?_))))))))
   refine zA rfl (zC rfl (zB (k_region (zA rfl (zA rfl (yu rfl ty129 rfl rfl (by omega) (by omega) cl122 ?_))))))
   refine yu rfl wT rfl rfl (by omega) (by omega) cl4 ?_
   refine o_store1 (cs:=bl64 (diag n)) rfl rfl sh4 hlt rfl ?_
   refine zB ?_
   refine zM [(0,.lst .ro 5 (jnsU J)),(3,U.box 0 0),(12,.int .i64 ↑n)] ([SB.box (List.set (bl64 (diag n)) (0+Int.toNat ↑n*8+Int.toNat ↑n*1) (.bool true))]) (.c2 rfl rfl (.cons rfl (.nil rfl))) rfl fun fr=>?_
   refine k_region ?_
   refine o_add rfl rfl rfl (by unfold I64;omega) (zA rfl (zB ?_))
   exact⟨k - 1,by omega,n+1,by omega,congrArg (fun c=>[SB.box c]) hse,.c2 rfl rfl (.cons rfl (.nil rfl))⟩
  ·have hn:n=8:=by omega
   subst hn
   refine kQ (zt rfl rfl rfl (zB (k_seq (k_cF rfl rfl ?_))))
   refine yp (k_seq (kQ (zA rfl (yZ rfl ty70 rfl (List.length_map _) ?_))))
   refine zA rfl (zB (zP ?_))
   refine k_loop (fun k st=>∃(n:Nat) (G:Nat→Nat→Bool),k+n=J.length∧Rep (EJ (J.take n)) G∧Acy (EJ (J.take n))∧st.st[0]? =some (.box (bl64 G))∧Holds st [(3,.box 0 0),(20,.lst .ro 5 (jnsU J)),(21,.int .i64 J.length),(22,.int .i64 n)]) (fun k st hI=>?_) J.length _ ?_
   ·obtain⟨n,G,hk,hG,hA,hst0,hs⟩:=hI
    generalize hst:st.st=Y at hst0
    refine zM _ _ hs hst fun fr=>?_
    by_cases hn:n<J.length
    ·obtain⟨j,hj⟩:∃j,J[n]? =some j:=⟨J[n],List.getElem?_eq_getElem hn⟩
     obtain⟨ra,rb⟩:=hr j (List.mem_of_getElem? hj)
     have htk:EJ (J.take (n+1))=EJ (J.take n)++[(((j.one.toNat:Nat):Int),((j.two.toNat:Nat):Int))]:=by
      rw[show((j.one.toNat:Nat):Int)=j.one by omega,show((j.two.toNat:Nat):Int)=j.two by omega,EJ,List.take_add_one,hj,List.map_append];rfl
     have wa:=bl64_row G ra
     have wb:=bl64_row G rb
     have la:0+j.one.toNat*8+8≤(bl64 G).length:=by rw[wt];omega
     have lb:0+j.two.toNat*8+8≤(bl64 G).length:=by rw[wt];omega
     have q102:=ret102 (orc:=orc) hi (G j.one.toNat) (G j.two.toNat)
     have q103:=ret103 (orc:=orc) hi (G j.one.toNat) (G j.two.toNat)
     have hmt:=hG.meet (a:=j.one.toNat) (b:=j.two.toNat) (by omega) (by omega)
     refine kQ (zt rfl rfl rfl (zB (k_seq (k_cT rfl (decide_eq_true (by omega)) (zW (k_seq (zP (kQ ?_))))))))
     refine yr (u:=(j).u) rfl ty70 rfl rfl (Int.natCast_nonneg _) (by simp[hj]) cl72 ?_
     refine yC rfl rfl sh72 rfl ?_
     refine zV rfl ze72 ?_
     refine zN rfl (za _ _) sh72 rfl rfl rfl rfl rfl ?_
     refine zB ?_
     refine zM [(3,.box 0 0),(6,.box (List.length Y) 0),(20,.lst .ro 5 (jnsU J)),(21,.int .i64 ↑(List.length J)),(22,.int .i64 ↑n)] (Y++[SB.box [.int .i64 j.kd,.int .i64 j.one,.int .i64 j.two,.int .i64 j.lo,.int .i64 j.hi]]) (.c4 rfl rfl rfl rfl (.cons rfl (.nil rfl))) (yN _ _ _) fun fr=>?_
     refine k_seq (k_drawA [.plain,.read true,.plain,.read true,.plain,.read true,.plain,.read true,.pre,.pre,.plain,.plain] [(30,7),(32,7)] (by kernel_rfl) (by kernel_rfl) (by kernel_rfl) ?_)
     refine zE (zG rfl rfl w0 (zB rfl)) ?_
     refine zi rfl (zF rfl rfl (za _ _) sh3 rfl (zB rfl)) ?_
     refine zE (yu rfl ty129 rfl rfl (by omega) (by omega) cl122 (zB rfl)) ?_
     refine zi rfl (o_loadNW (cs:=bl64 G) rfl rfl (yF hst0) wF la wa (zB rfl)) ?_
     refine zE (zG rfl rfl wJ (zB rfl)) ?_
     refine zi rfl (zF rfl rfl (za _ _) sh3 rfl (zB rfl)) ?_
     refine zE (yu rfl ty129 rfl rfl (by omega) (by omega) cl122 (zB rfl)) ?_
     refine zi rfl (o_loadNW (cs:=bl64 G) rfl rfl (yF hst0) wF lb wb (zB rfl)) ?_
     refine d_pre rfl uQ ?_
     refine d_pre rfl uQ ?_
     refine zE (zN rfl (yF (za _ _)) wF rfl rfl rfl rfl rfl (zB rfl)) ?_
     obtain⟨bj,hbj⟩:∃bj,bj=SB.box [.int .i64 j.kd,.int .i64 j.one,.int .i64 j.two,.int .i64 j.lo,.int .i64 j.hi]:=⟨_,rfl⟩
     refine d_genA [(3,.box 0 0),(7,.box (Y++[bj]).length 0),(8,.box ((Y++[bj])++[SB.box (bl8 (G j.one.toNat))]).length 0),(20,.lst .ro 5 (jnsU J)),(21,.int .i64 J.length),(22,.int .i64 n),(30,.box Y.length 2),(32,.box 0 (0+j.two.toNat*8)),(33,.agg (bl8 (G j.two.toNat)))] [] (((Y++[bj])++[SB.box (bl8 (G j.one.toNat))])++[SB.box (bl8 fun _=>false)]) (.cons rfl (.cons (by rw[hbj];rfl) (.cons (by show U.box (List.length ((Y++[_])++[_])) 0=_;simp) (.c4 rfl rfl rfl rfl (.c2 rfl rfl (.nil rfl)))))) (by rw[hbj];exact set_mid _ _ _ _) rfl fun fr=>?_
     refine zE (zN rfl (za _ _) wF rfl rfl rfl rfl rfl (zB rfl)) ?_
     refine d_nil ⟨fun p hp=>?_,?_⟩
     ·simp only[List.mem_cons,List.not_mem_nil,or_false]at hp
      rcases hp with rfl|rfl
      ·refine⟨Y.length,2,(Y++[bj]).length,0,[.int .i64 j.kd,.int .i64 j.one,.int .i64 j.two,.int .i64 j.lo,.int .i64 j.hi],rfl,rfl,?_,?_⟩
       ·show Y.length≠(Y++[bj]).length
        simp
       ·show((((Y++[bj])++[_])++[_]).set _ _)[Y.length]? =_
        rw[yN,List.append_assoc,List.append_assoc,List.getElem?_append_right (Nat.le_refl _),Nat.sub_self,hbj];rfl
      ·refine⟨0,0+j.two.toNat*8,(Y++[bj]).length,0,bl64 G,rfl,rfl,?_,?_⟩
       ·show 0≠(Y++[bj]).length
        simp
       ·show((((Y++[bj])++[_])++[_]).set _ _)[0]? =_
        rw[yN,List.append_assoc,List.append_assoc]
        exact yF hst0
     refine zM [(3,.box 0 0),(7,.box (Y++[bj]).length 0),(8,.box ((Y++[bj])++[SB.box (bl8 (G j.one.toNat))]).length 0),(20,.lst .ro 5 (jnsU J)),(21,.int .i64 J.length),(22,.int .i64 n)] (((Y++[bj])++[SB.box (bl8 (G j.one.toNat))])++[SB.box (bl8 (G j.two.toNat))]) (.c4 rfl rfl rfl rfl (.c2 rfl rfl (.nil rfl))) (yN _ _ _) fun fr=>?_
     have hst1:(Y++[bj])[0]? =some (.box (bl64 G)):=yF hst0
     generalize Y++[bj]=L at hst1
     cases hc:ug (fun i=>G j.one.toNat i&&G j.two.toNat i)with
     |true=>
      have e:uK J=true:=by
       unfold uK
       have: ¬ Acy (EJ J):=fun hac=>by
        have e2:EJ J=EJ (J.take (n+1))++EJ (J.drop (n+1)):=by
         rw[EJ,←List.map_append,List.take_append_drop]
        rw[e2]at hac
        have h3:=hac.pre
        rw[htk]at h3
        exact h3.last (hmt.1 hc)
       simp[this]
      rw[e]
      refine k_seq (kQ (zK rfl rfl (yF (za _ _)) wF rfl ?_))
      refine zK rfl rfl (za _ _) wF rfl ?_
      refine zX rfl (q102) (.lrefl _) (yP rfl uQ pl122 rfl rfl ?_)
      refine o_binK rfl rfl rfl rfl rfl (neq_bl8' _ _) ?_
      refine zB (k_cT rfl (by assumption) (kQ (zC rfl (zB (ze ?_)))))
      refine⟨.inr rfl,_,.cons _ _ _ _ (.tmp 2) .nil,?_⟩
      exact .refl _
     |false=>
      have hnc: ¬ Conn (EJ (J.take n)) ((j.one.toNat:Nat):Int) ((j.two.toNat:Nat):Int):=fun h=>by rw[hmt.2 h]at hc;cases hc
      have hA2:Acy (EJ (J.take (n+1))):=by rw[htk];exact .snoc hA hnc
      have hG2:=hG.join (a:=j.one.toNat) (b:=j.two.toNat) (by omega) (by omega)
      rw[←htk]at hG2
      obtain⟨w,hw⟩:∃w,w=whole G j.one.toNat j.two.toNat:=⟨_,rfl⟩
      rw[←hw]at hG2
      have q103:RetP Try.prog is orc 103 [.agg (bl8 (G j.one.toNat)),.agg (bl8 (G j.two.toNat))] (.agg (bl8 w)):=by rw[hw];exact q103
      refine k_seq (kQ (zK rfl rfl (yF (za _ _)) wF rfl ?_))
      refine zK rfl rfl (za _ _) wF rfl ?_
      refine zX rfl (q102) (.lrefl _) (yP rfl uQ pl122 rfl rfl ?_)
      refine o_binK rfl rfl rfl rfl rfl (neq_bl8' _ _) ?_
      refine zB (k_cF rfl (by assumption) (zW (kQ (zK rfl rfl (yF (za _ _)) wF rfl ?_))))
      refine zK rfl rfl (za _ _) wF rfl ?_
      refine zX rfl (q103) (.lrefl _) (zV rfl uQ ?_)
      refine zN rfl (za _ _) wF rfl rfl rfl rfl rfl ?_
      refine zB ?_
      refine zM [(3,.box 0 0),(9,.box (List.length (L++[SB.box (bl8 (G (Int.toNat j.one)))]++[SB.box (bl8 (G (Int.toNat j.two)))])) 0),(20,.lst .ro 5 (jnsU J)),(21,.int .i64 ↑(List.length J)),(22,.int .i64 ↑n)] (L++[SB.box (bl8 (G (Int.toNat j.one)))]++[SB.box (bl8 (G (Int.toNat j.two)))]++[SB.box [U.bool (w 0),U.bool (w 1),U.bool (w 2),U.bool (w 3),U.bool (w 4),U.bool (w 5),U.bool (w 6),U.bool (w 7)]]) (.c4 rfl rfl rfl rfl (.cons rfl (.nil rfl))) (yN _ _ _) fun fr=>?_
      refine kQ (zK rfl rfl (za _ _) wF rfl ?_)
      refine zA rfl (zB (zP ?_))
      have hst2:(L++[SB.box (bl8 (G j.one.toNat))]++[SB.box (bl8 (G j.two.toNat))]++[SB.box (bl8 w)])[0]? =some (.box (bl64 (wU G w 0))):=by rw[step8_zero];exact yF (yF (yF hst1))
      have hP:(L++[SB.box (bl8 (G j.one.toNat))]++[SB.box (bl8 (G j.two.toNat))]++[SB.box (bl8 w)])[(L++[SB.box (bl8 (G j.one.toNat))]++[SB.box (bl8 (G j.two.toNat))]).length]? =some (.box (bl8 w)):=za _ _
      have hP0:(L++[SB.box (bl8 (G j.one.toNat))]++[SB.box (bl8 (G j.two.toNat))]).length≠0:=by simp
      refine k_loop (fun k2 st=>∃(m:Nat),k2+m=8∧st.st[0]? =some (.box (bl64 (wU G w m)))∧st.st[(L++[SB.box (bl8 (G j.one.toNat))]++[SB.box (bl8 (G j.two.toNat))]).length]? =some (.box (bl8 w))∧Holds st [(3,.box 0 0),(9,.box (L++[SB.box (bl8 (G j.one.toNat))]++[SB.box (bl8 (G j.two.toNat))]).length 0),(20,.lst .ro 5 (jnsU J)),(21,.int .i64 J.length),(22,.int .i64 n),(42,.agg (bl8 w)),(43,.int .i64 m)]) (fun k2 st2 hI2=>?_) 8 _ ⟨0,rfl,hst2,hP,.c4 rfl rfl rfl rfl (.c2 rfl rfl (.cons rfl (.nil rfl)))⟩
      generalize (L++[SB.box (bl8 (G j.one.toNat))]++[SB.box (bl8 (G j.two.toNat))]).length=q9 at hI2 hP0
      obtain⟨m,hk2,hZ0,hZ9,hs2⟩:=hI2
      generalize hst3:st2.st=Z at hZ0 hZ9
      refine zM _ _ hs2 hst3 fun fr=>?_
      by_cases hm:m<8
      ·have hwa:(bl8 w)[(m:Int).toNat*1]? =some (.bool (w m)):=by have:=uB w hm;rwa [Nat.zero_add]at this
       cases hwm:w m with
       |true=>
        rw[hwm]at hwa
        have hpu:=(bl64_put (wU G w m) w hm).trans (congrArg bl64 (step8_succ hwm))
        have hlb:0+(m:Int).toNat*8+8≤(bl64 (wU G w m)).length:=by rw[wt];omega
        refine kQ (zt rfl rfl rfl (zB (k_seq (k_cT rfl (decide_eq_true (by omega)) (zW (k_seq (zP (kQ ?_))))))))
        refine zA rfl (o_idx1 rfl wT rfl rfl (by omega) (by omega) cl4 sh4 hwa ?_)
        refine zC rfl (zC rfl (zB (kQ (zA rfl (zB (k_cT rfl rfl ?_))))))
        refine k_region (zA rfl (zK rfl rfl hZ9 wF rfl ?_))
        refine yu rfl ty129 rfl rfl (by omega) (by omega) cl122 ?_
        refine o_storeNW rfl hZ0 wF rfl rfl rfl hlb rfl hpu ?_
        refine zB ?_
        refine zM [(3,.box 0 0),(9,.box q9 0),(20,.lst .ro 5 (jnsU J)),(21,.int .i64 ↑(List.length J)),(22,.int .i64 ↑n),(42,.agg (bl8 w)),(43,.int .i64 ↑m)] (List.set Z 0 (SB.box (bl64 (wU G w (m+1))))) (.c4 rfl rfl rfl rfl (.c2 rfl rfl (.cons rfl (.nil rfl)))) rfl fun fr=>?_
        refine k_region ?_
        refine o_add rfl rfl rfl (by unfold I64;omega) (zA rfl (zB ?_))
        exact⟨k2 - 1,by omega,m+1,by omega,at_put hZ0,z5 hZ9 (fun e=>hP0 e.symm),.c4 rfl rfl rfl rfl (.c2 rfl rfl (.cons rfl (.nil rfl)))⟩
       |false=>
        rw[hwm]at hwa
        refine kQ (zt rfl rfl rfl (zB (k_seq (k_cT rfl (decide_eq_true (by omega)) (zW (k_seq (zP (kQ ?_))))))))
        refine zA rfl (o_idx1 rfl wT rfl rfl (by omega) (by omega) cl4 sh4 hwa ?_)
        refine zC rfl (zC rfl (zB (kQ (zA rfl (zB (k_cF rfl rfl ?_))))))
        refine zW (k_region ?_)
        refine o_add rfl rfl rfl (by unfold I64;omega) (zA rfl (zB ?_))
        exact⟨k2 - 1,by omega,m+1,by omega,by rw[←step8_skip hwm];exact hZ0,hZ9,.c4 rfl rfl rfl rfl (.c2 rfl rfl (.cons rfl (.nil rfl)))⟩
      ·have hm:m=8:=by omega
       subst hm
       refine kQ (zt rfl rfl rfl (zB (k_seq (k_cF rfl rfl ?_))))
       refine yp (k_region ?_)
       refine o_add rfl rfl rfl (by unfold I64;omega) (zA rfl (zB ?_))
       exact⟨k - 1,by omega,n+1,_,by omega,hG2,hA2,hZ0,.c4 rfl rfl rfl rfl (.nil rfl)⟩
    ·have hn:n=J.length:=by omega
     subst hn
     rw[List.take_length]at hA
     have e:uK J=false:=by unfold uK;simp[hA]
     rw[e]
     refine kQ (zt rfl rfl rfl (zB (k_seq (k_cF rfl (decide_eq_false (by omega)) (yp (kQ (zC rfl (zB ?_))))))))
     refine ze ?_
     refine⟨.inr rfl,_,.cons _ _ _ _ (.tmp 2) .nil,?_⟩
     exact .refl _
   ·exact⟨0,diag 8,rfl,rep_diag,.nil,rfl,.c4 rfl rfl rfl rfl (.nil rfl)⟩
 ·exact⟨0,rfl,rfl,.c2 rfl rfl (.cons rfl (.nil rfl))⟩
end Go.Proofs.Ytinhcdijbcamaaa.tuneNarrower
