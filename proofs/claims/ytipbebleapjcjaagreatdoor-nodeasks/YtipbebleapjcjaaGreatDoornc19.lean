import Derived.Test.YtipbebleapjcjaaGreatDoornc14
import Derived.Test.YtipbebleapjcjaaGreatDoornc3
import Derived.Deep.DeepCutAuto
set_option maxHeartbeats 12800000
set_option maxRecDepth 1000000
open Array renaming getElem?_eq_some_iff->Ig
open ByteArray renaming empty->Ie,mk->J9
open Go renaming heap_alloc_new->Ii,info_parts->Jc,maxLen->Il,step_append_lies->Qm,wpList_append_own->IY
open Go.Addr renaming add_lit->I4
open Go.Ending renaming returned->Ia
open Go.Instr renaming lookup->Of
open Go.IntKind renaming i64->J
open Go.Lib renaming toList_data->IZ
open Go.Obj renaming cells->Ib
open Go.Proofs.Tryz renaming prog->AT,underlying107->IS,underlying24->Oz,underlying61->Qc,underlying9->IF
open Go.RowKit.Below renaming heap_alloc->Iv,refl->If
open Go.Value renaming agg->Iu,bool->Ic,int->O,slice->sh,string->I,tuple->Ir
open Go.Value.slice renaming injEq->IM
open Go.World renaming block_lt_of_cell?->II,frozen?->Ij,news_of_block->Uk
open Go.World.ownsRow renaming alloc->OY,cellAt->ON,kept->QJ,lt->I3
open Int renaming natCast_nonneg->OM
open List renaming append_assoc->Jh,eq_nil_of_length_eq_zero->I5,filter_append->JJ,flatMap_append->Qh,getD->Ip,getElem?_append_left->Js,getElem?_eq_getElem->Ih,length_append->Iq,length_filter_le->OJ,length_map->I8,length_pos_iff->Uh,length_take->IA,length_take_le->Oh,mem_filter->JT,take_append_drop->O3,take_of_length_le->IJ,take_succ_eq_append_getElem->Iz
open Nat renaming le_refl->By,not_lt_zero->IV,zero_le->Iw
open Ne renaming symm->O2
open Option renaming none->U,some->AI
open Option.some renaming inj->Jq,injEq->Jd
open Go.Proofs.Tryz
namespace Go.Proofs.YtipbebleapjcjaaGreatDoor
open Go.RowKit Go.WideMaps Go.Maps
def aee(v:Value):Option (DataW Value×List MemPlace):=AI (.held v,[])
def rE(w:World)(b n:Nat)(M:ByteArray->Value):Prop:=∃D:DataW Value,w.ownsMap AT 9 aee b n D/\∀s,D.atKey (kS s) (.held (sh U 0 0))=.held (M s)
def aef(M:ByteArray->Value)(s:ByteArray)(v:Value):ByteArray->Value:=λx=>if x=s then v else M x
theorem xp(M:ByteArray->Value)(s:ByteArray)(v:Value):aef M s v s=v:=if_pos rfl
theorem sS(M:ByteArray->Value){s x:ByteArray}(v:Value)(h:x≠s):aef M s v x=M x:=if_neg h
theorem ajo:Keyed AT 9:=string_keyed IF
theorem alM(w:World):(zeroValue 24).run AT w=.ok (sh U 0 0) w:=by kernel_rfl
theorem TE(w:World):rE (w.alloc (.map #[] 0)) w.heap.size 0 (λ_=>.slice U 0 0):=⟨.map [],World.ownsMap_made w AT 9 aee,λs=>by simp[DataW.atKey]⟩
theorem rE.kept{w w':World}{b n:Nat}{M:ByteArray->Value}{row:Option Nat}(h:rE w b n M)(hg:w.grownBy w' row)(nK:AI b≠row):rE w' b n M:=by
 obtain⟨D,h1,h2⟩:=h;exact⟨D,h1.kept hg nK,h2⟩
theorem rE.lt{w:World}{b n:Nat}{M:ByteArray->Value}(h:rE w b n M):b<w.heap.size:=by
 obtain⟨D,h1,h2⟩:=h;exact h1.lt
theorem rE.below{w w':World}{b n:Nat}{M:ByteArray->Value}(h:rE w b n M)(hb:Below w.heap.size w w'):rE w' b n M:=by
 have hl:=h.lt;obtain⟨D,⟨es,clock,h1,h3⟩,h2⟩:=h;exact⟨D,⟨es,clock,(hb.block b hl).trans h1,h3⟩,h2⟩
theorem rE.look{w:World}{b n:Nat}{M:ByteArray->Value}(h:rE w b n M){s:ByteArray}(hs:s.size<=Il):(Of 319 (.map (AI b)) (I s) false).run AT w=.ok (M s) w:=by
 obtain⟨D,h1,h2⟩:=h;obtain⟨v,ps,tP,hv⟩:=h1.lookup ajo underlying319 (alM w) (show aee (sh U 0 0)=AI (.held (sh U 0 0),[]) from rfl) (keyOf_string_mk IF hs);have e:v=M s:=by
  have h3:(DataW.held v:DataW Value)=D.atKey (kS s) (.held (sh U 0 0)):=by
   simp only[aee,Jd,Prod.mk.injEq] at hv;exact hv.1
  rw[h2 s] at h3;injection h3
 rw[tP,e]
theorem rE.put{w:World}{b n:Nat}{M:ByteArray->Value}(h:rE w b n M)(hn:n<Il){s:ByteArray}(hs:s.size<=Il)(v:Value):∃w',(Instr.mapUpdate 319 (.map (AI b)) (I s) v).run AT w=.ok () w'/\rE w' b (n+1) (aef M s v)/\w.grownBy w' (AI b):=by
 obtain⟨D,h1,h2⟩:=h;obtain⟨w',tP,ho,hg⟩:=h1.update ajo underlying319 hn (keyOf_string_mk IF hs) (show aee v=AI (.held v,[]) from rfl);refine⟨w',tP,⟨_,ho,λx=>?_⟩,hg⟩;by_cases e:x=s
 .subst e
  rw[xp];exact atKey_put_same h1.isMap (vt _) _ _
 .rw[sS M v e]
  exact(atKey_put_other (Dg e) _ _).trans (h2 x)
structure GH(B:Nat)(w:World)(mb n:Nat)(vn:Value)(M:ByteArray->Value)(ns:List ByteArray)(L:List Sv.nj):Prop where
 map:rE w mb n M
 nodes:nD B w vn ns
 rows:∀s,Sv.Own B w (M s) (tf L s)
 apart:∀s t,s≠t->(M s).ownBlock=U\/(M s).ownBlock≠(M t).ownBlock
 off:∀s,(M s).ownBlock=U\/(M s).ownBlock≠vn.ownBlock
 base:mb<B
theorem aeg(w:World):GH (w.heap.size+1) (w.alloc (.map #[] 0)) w.heap.size 0 (sh U 0 0) (λ_=>.slice U 0 0) [] []:=
 ⟨TE w,World.ownsRow_nil _ _ _ _,λ_=>Sv.nh _ _,λ_ _ _=>.inl rfl,λ_=>.inl rfl,Nat.lt_succ_self _⟩
theorem GH.below{B:Nat}{w w':World}{mb n:Nat}{vn:Value}{M:ByteArray->Value}{ns:List ByteArray}{L:List Sv.nj}(h:GH B w mb n vn M ns L)(hb:Below w.heap.size w w'):GH B w' mb n vn M ns L:=
 ⟨h.map.below hb,nD.below h.nodes hb,λs=>(h.rows s).below hb,h.apart,h.off,h.base⟩
theorem GH.more{B:Nat}{w:World}{mb n n':Nat}{vn:Value}{M:ByteArray->Value}{ns:List ByteArray}{L:List Sv.nj}(h:GH B w mb n vn M ns L)(hn:n<=n'):GH B w mb n' vn M ns L:=by
 obtain⟨⟨D,h1,h2⟩,h3,h4,h5,h6,h7⟩:=h;exact⟨⟨D,h1.mono hn,h2⟩,h3,h4,h5,h6,h7⟩
theorem xq{B mb:Nat}{w:World}{v:Value}{t:TypeId}{k n:Nat}{xs:List Value}(h:w.ownsRow B t k v n xs)(hb:mb<B):v.ownBlock=U\/v.ownBlock≠AI mb:=by
 cases e:v.ownBlock with
 |none=>exact .inl rfl
 |some g=>exact .inr (λe2=>by have:=(I3 h g e).1;cases e2;omega)
theorem GH.node{B:Nat}{w w':World}{mb n:Nat}{vn v':Value}{M:ByteArray->Value}{ns:List ByteArray}{L:List Sv.nj}(h:GH B w mb n vn M ns L)(x:ByteArray)(r1:w'.ownsRow B 9 1 v' (ns.length+1) (ns.map I++[I x]))(r2:w.grownBy w' vn.ownBlock)(r4:v'.ownBlock=vn.ownBlock\/∃g,v'.ownBlock=AI g/\w.heap.size<=g):GH B w' mb n v' M (ns++[x]) L:=by
 refine⟨h.map.kept r2 (λe=>?_),rO r1,λs=>(h.rows s).kept r2 (h.off s),h.apart,λs=>?_,h.base⟩
 .rcases xq h.nodes h.base with h1|h1
  .rw[h1] at e;cases e
  .exact h1 e.symm
 .rcases r4 with e|⟨g,e,hg⟩
  .rw[e];exact h.off s
  .rw[e]
   cases e2:(M s).ownBlock with
   |none=>exact .inl rfl
   |some k=>exact .inr (λe3=>by have:=(I3 (h.rows s) k e2).2;cases e3;omega)
theorem AE(L:List Sv.nj)(x:Sv.nj):tf (L++[x]) x.node=tf L x.node++[x]:=by simp[tf,JJ]
theorem yQ(L:List Sv.nj)(x:Sv.nj){s:ByteArray}(h:s≠x.node):tf (L++[x]) s=tf L s:=by
 have h2:decide (x.node=s)=false:=by simpa using O2 h
 simp[tf,JJ,h2]
theorem GH.put{B:Nat}{w w5:World}{mb n:Nat}{vn v':Value}{M:ByteArray->Value}{ns:List ByteArray}{L:List Sv.nj}(h:GH B w mb n vn M ns L)(x:Sv.nj)(hx:x.node.size<=Il)(hn:n<Il)(r1:Sv.Own B w5 v' (tf L x.node++[x]))(r2:w.grownBy w5 (M x.node).ownBlock)(r4:v'.ownBlock=(M x.node).ownBlock\/∃g,v'.ownBlock=AI g/\w.heap.size<=g) :
 ∃w6,(Instr.mapUpdate 319 (.map (AI mb)) (I x.node) v').run AT w5=.ok () w6/\GH B w6 mb (n+1) vn (aef M x.node v') ns (L++[x])/\w5.grownBy w6 (AI mb):=by
 have hm5:rE w5 mb n M:=h.map.kept r2 (λe=>by
  rcases xq (h.rows x.node) h.base with h1|h1
  .rw[h1] at e;cases e
  .exact h1 e.symm)
 obtain⟨w6,tP,hm6,EA⟩:=hm5.put hn hx v';have alN:∀(u:Value) (t:TypeId) (k m:Nat) (xs:List Value),w.ownsRow B t k u m xs->(u.ownBlock=U\/u.ownBlock≠(M x.node).ownBlock)->(u.ownBlock=U\/u.ownBlock≠v'.ownBlock):=λu t k m xs ho nK=>by
  rcases r4 with e|⟨g,e,hg⟩
  .rw[e];exact nK
  .rw[e]
   cases e2:u.ownBlock with
   |none=>exact .inl rfl
   |some j=>exact .inr (λe3=>by have:=(I3 ho j e2).2;cases e3;omega)
 have hvn:vn.ownBlock=U\/vn.ownBlock≠(M x.node).ownBlock:=by
  cases e:vn.ownBlock with
  |none=>exact .inl rfl
  |some j=>
   refine .inr (λe2=>?_);rcases h.off x.node with h1|h1
   .rw[h1] at e2;cases e2
   .exact h1 (e2.symm.trans e.symm)
 refine⟨w6,tP,⟨hm6,?_,λs=>?_,λs t GB=>?_,λs=>?_,h.base⟩,EA⟩
 .exact(QJ h.nodes r2 hvn).kept EA (xq (QJ h.nodes r2 hvn) h.base)
 .by_cases e:s=x.node
  .subst e
   rw[xp,AE];exact QJ r1 EA (xq r1 h.base)
  .rw[sS M v' e,yQ L x e]
   have h5:w5.ownsRow B 93 9 (M s) (tf L s).length (Sv.fl (tf L s)):=QJ (h.rows s) r2 (h.apart s x.node e);exact QJ h5 EA (xq h5 h.base)
 .by_cases e:s=x.node
  .subst e
   rw[xp,sS M v' (O2 GB)];cases e2:v'.ownBlock with
   |none=>exact .inl rfl
   |some j=>
    refine .inr (λe3=>?_);rcases alN (M t) _ _ _ _ (h.rows t) (h.apart t x.node (O2 GB)) with h1|h1
    .rw[h1] at e3;cases e3
    .exact h1 (e3.symm.trans e2.symm)
  .by_cases e2:t=x.node
   .subst e2
    rw[xp,sS M v' e];exact alN (M s) _ _ _ _ (h.rows s) (h.apart s x.node e)
   .rw[sS M v' e,sS M v' e2]
    exact h.apart s t GB
 .by_cases e:s=x.node
  .subst e
   rw[xp];cases e2:v'.ownBlock with
   |none=>exact .inl rfl
   |some j=>
    refine .inr (λe3=>?_);rcases alN vn _ _ _ _ h.nodes hvn with h1|h1
    .rw[h1] at e3;cases e3
    .exact h1 (e3.symm.trans e2.symm)
  .rw[sS M v' e]
   exact h.off s
theorem svI:(Tryz.prog.info? 93).map (λi=>(i.zero,i.size,i.bytes))=AI (AI (Iu #[I ⟨#[]⟩,I ⟨#[]⟩,I ⟨#[]⟩,I ⟨#[]⟩,O J 0,O J 0,Ic false,O J 0,Ic false]),9,104):=by kernel_rfl
theorem KD{ms:List Mem}{L:List Sv.nj}{x:Sv.nj}(h:wL ms x.node=false):nf ms (L++[x])=nf ms L++[x]:=by simp[nf,JJ,h]
theorem KE{ms:List Mem}{L:List Sv.nj}{x:Sv.nj}(h:wL ms x.node=true):nf ms (L++[x])=nf ms L:=by simp[nf,JJ,h]
theorem vI{L:List Sv.nj}{k:Nat}(h:k<L.length):L.take (k+1)=L.take k++[L.getD k Sv.dm]:=by
 rw[Iz h];simp[Ip,Ih h]
theorem Pa{L:List Sv.nj}{n:ByteArray}(h:(tf L n).length=0):n ∉ nF L:=λhm=>by
 obtain⟨s,hs,e⟩:=(ua L n).1 hm
 have:s∈tf L n:=JT.2 ⟨hs,by simpa using e⟩
 rw[I5 h] at this;simp at this
theorem aeh{L:List Sv.nj}{n:ByteArray}(h:(tf L n).length≠0):n∈nF L:=by
 rw[ua];obtain⟨s,hs⟩:=List.exists_mem_of_length_pos (Nat.pos_of_ne_zero h);have:=JT.1 hs;exact⟨s,this.1,by simpa using this.2⟩
theorem aaA{L:List Sv.nj}{x:Sv.nj}(h:(tf L x.node).length=0):nF (L++[x])=nF L++[x.node]:=by rw[rR,yI (Pa h)]
theorem aaB{L:List Sv.nj}{x:Sv.nj}(h:(tf L x.node).length≠0):nF (L++[x])=nF L:=by rw[rR,BO (aeh h)]
theorem CW{SL:List ByteArray}{L:List Sv.nj}{j:Nat}(h:j<SL.length):qp (SL.take (j+1)) L=qp (SL.take j) L++tf L (SL.getD j Ie):=by
 unfold qp;rw[Iz h,Qh];simp[Ip,Ih h]
theorem Pb:∀(ns:List ByteArray) (L:List Sv.nj),(qp ns L).length<=ns.length*L.length
 |[],L=>by simp[qp]
 |n::r,L=>by
  have h1:=Pb r L;have h2:(tf L n).length<=L.length:=OJ _ _;have e:qp (n::r) L=tf L n++qp r L:=by simp[qp]
  rw[e,Iq,List.length_cons,Nat.add_mul];omega
theorem ahL{w:World}{a:Option Addr}{n c m:Nat}{ms:List Sv.nj}(h:Sv.Sl w (sh a n c) ms):Sv.Sl w (sh a (ms.take m).length c) (ms.take m):=by
 obtain⟨a',c',hv,hs,h⟩:=h;simp only[IM] at hv;obtain⟨rfl,rfl,rfl⟩:=hv;refine⟨a,c,rfl,Sv.oz (λx hx=>Sv.rA hs x (List.mem_of_mem_take hx)),?_⟩;rcases h with h|⟨b,off,ha,mS,hr⟩
 .exact .inl (by rw[h];simp)
 .refine .inr ⟨b,off,ha,mS,λj hj=>?_⟩
  have DY:j<ms.length:=by rw[IA] at hj;omega
  have hj3:j<m:=by rw[IA] at hj;omega
  have e:(ms.take m).getD j Sv.dm=ms.getD j Sv.dm:=by simp[Ip,List.getElem?_take_of_lt hj3]
  rw[e];exact hr j DY
theorem Pd{base:Nat}{w:World}{v:Value}{l:List ByteArray}(h:nD base w v l)(hs:∀s∈l,s.size<=Il):Bi w v l:=by
 have hz:∀j,(l.getD j Ie).size<=Il:=λj=>by
  by_cases hj:j<l.length
  .rw[show l.getD j Ie=l[j] by simp[Ip,Ih hj]];exact hs _ (List.getElem_mem hj)
  .rw[show l.getD j Ie=Ie by simp[Ip,List.getElem?_eq_none (by omega:l.length<=j)]];decide
 rcases h.2 with⟨hv,h0⟩|⟨g,c,cur,hv,_,hg,_⟩
 .exact⟨U,0,by rw[hv,h0],hz,.inl (List.length_eq_zero_iff.1 h0)⟩
 .refine⟨AI ⟨g,0,U⟩,c,hv,hz,.inr ⟨g,0,rfl,(Ig.1 hg).1,λj hj=>?_⟩⟩
  subst hv;rw[Nat.zero_add,ON h j (by omega)];simp[Ip,Ih hj]
theorem aei{B:Nat}{w:World}{v:Value}{L:List Sv.nj}{x:Sv.nj}{lu:Nat}(h:lu=L.length)(ho:w.ownsRow B 93 9 v (lu+1) (Sv.fl L++x.cs)):Sv.Own B w v (L++[x]):=by subst h;exact Sv.qC ho
theorem xt(ms:List Mem)(L:List Sv.nj):(nf ms L).length<=L.length:=OJ _ _
theorem Wv(L:List Sv.nj)(n:ByteArray):(tf L n).length<=L.length:=OJ _ _
theorem Pe(here:ByteArray)(ps pm pw:Option Addr)(ns cs nm cm nw cw:Nat)(px py pz ph pq:Int)(ms:List Mem)(found:List Sv.nj)(wh:List Wh.nZ)(SL:List ByteArray)(vf:Value)(w:World)(hm:Sl w (sh pm nm cm) ms)(hf:Sv.Sl w vf found)(Rn:Wh.Sl w (sh pw nw cw) wh)(hn:nm<=1000)(uU:found.length<=40)(hso:∀(vn:Value) (W:World),Wh.Sl W (sh pw nw cw) wh->Bi W vn (nF (nf ms found))->Calls AT 288 #[Iu #[O J px,O J py,O J pz,O J ph,O J pq],sh pw nw cw,vn] W λe w'=>∃v' E,e=Ia (Ir #[v',O J E])/\Bi w' v' SL/\Below W.heap.size W w')(hSL:∀x∈SL,x∈nF (nf ms found))(aDt:SL.length<=40) :
 Calls AT 260 #[Iu (tH here (sh ps ns cs) (sh pm nm cm) px py pz ph pq (sh pw nw cw)),vf] w λe w'=>∃v',e=Ia v'/\Sv.Sl w' v' ((qp SL (nf ms found)).take 20)/\Below w.heap.size w w':=by
 have HSO:Hid _:=hso;have Pf:Hid _:=hSL;have HWH:Hid (Wh.Sl _ _ _):=Rn;clear hso hSL Rn;obtain⟨i0,qg,oS,so,sf⟩:=Jc svI;obtain⟨j0,hj0,jz0,jzs,jzb⟩:=Jc Tryz.AU;have HM:Hid (Sl _ _ _):=hm;obtain⟨pf,cf,rfl,hfs,hfa⟩:=hf;have HFS:Hid _:=hfs;have HA:Hid _:=hfa;clear hm hfs hfa;generalize hNN:found.length=n at *;have HN:Hid _:=hNN;clear hNN;have yr := @run_makeMap AT;go_enter func260,ntmps260;go_wp2_with fail;obtain⟨W,hW⟩:∃W,W=(w.alloc (Ib (tH here (sh ps ns cs) (sh pm nm cm) px py pz ph pq (sh pw nw cw)) 87)).alloc (.map #[] 0):=⟨_,rfl⟩;rw[<- hW];have rW:Hid (Below w.heap.size w W):=by rw[hW];exact((If _ _).alloc (By _) _).alloc (by simp) _
 have Kj:Hid (W.heap[w.heap.size]?=AI (Ib (tH here (sh ps ns cs) (sh pm nm cm) px py pz ph pq (sh pw nw cw)) 87 (0,0))):=by
  rw[hW,Iv _ _ _ (by simp)];exact Ii w _
 have xu:Hid (GH (w.heap.size+2) W (w.heap.size+1) 0 (sh U 0 0) (λ_=>.slice U 0 0) [] []):=by
  have h:=aeg (w.alloc (Ib (tH here (sh ps ns cs) (sh pm nm cm) px py pz ph pq (sh pw nw cw)) 87));rw[show(w.alloc (Ib (tH here (sh ps ns cs) (sh pm nm cm) px py pz ph pq (sh pw nw cw)) 87)).heap.size=w.heap.size+1 by simp] at h;rw[hW];exact h
 clear hW;go_loopw [6,17] (λvn i wr=>∃(k:Nat) (M:ByteArray->Value),k<=n/\i=O J k/\Hid (GH (w.heap.size+2) wr (w.heap.size+1) k vn M (nF (nf ms (found.take k))) (nf ms (found.take k)))/\Hid (Below w.heap.size w wr)/\Hid (wr.heap[w.heap.size]?=AI (Ib (tH here (sh ps ns cs) (sh pm nm cm) px py pz ph pq (sh pw nw cw)) 87 (0,0)))) (λ_ i _=>n-(intOf i).toNat)
 case atStart=>exact⟨0,_,Iw _,rfl,xu,rW,Kj⟩
 case round=>
  obtain⟨k,M,hk,rfl,HG,HB,HK⟩:=hrel;have alO:=HB.out.size;have aDy:=HG.out.map.lt;by_cases mS:k<n
  .obtain⟨b,off,tr,o8,hr⟩:∃b off,pf=AI ⟨b,off,U⟩/\b<w.heap.size/\Sv.Row w b off found:=by
    rcases HA.out with h|h
    .have:=HN.out;rw[h] at this;simp at this;omega
    .exact h
   subst tr;have EU:k<found.length:=by rw[HN.out];exact mS
   obtain⟨c0,c1,c2,c3,c4,c5,c6,c7,c8⟩:=hr.later HB.out o8 k EU;clear hr;have HSK:Hid _:=vI EU;have DZ:=(HFS.out k).1;have hLn:(nf ms (found.take k)).length<=40:=by have h1:=xt ms (found.take k);have h2:(found.take k).length<=k:=Oh _ _;omega
   generalize found.getD k Sv.dm=x at *;obtain⟨nd,oI,name,tag,ad,po,wQ,wR,wN⟩:=x;simp only at c0 c1 c2 c3 c4 c5 c6 c7 c8 DZ;have hkk:w.heap.size<wr.heap.size:=by omega
   have hd:∀ob,(wr.alloc ob).heap[w.heap.size]?=AI (Ib (tH here (sh ps ns cs) (sh pm nm cm) px py pz ph pq (sh pw nw cw)) 87 (0,0)):=λob=>by rw[Iv _ _ _ hkk];exact HK.out
   have d0:∀ob,(wr.alloc ob).cell? ⟨w.heap.size,0,U⟩=AI (I here):=λob=>fi (hd ob) 0;have d1:∀ob,(wr.alloc ob).cell? ⟨w.heap.size,1,U⟩=AI (sh ps ns cs):=λob=>fi (hd ob) 1;have d2:∀ob,(wr.alloc ob).cell? ⟨w.heap.size,2,U⟩=AI (sh pm nm cm):=λob=>fi (hd ob) 2;have d3:∀ob,(wr.alloc ob).cell? ⟨w.heap.size,3,U⟩=AI (O J px):=λob=>fi (hd ob) 3;have d4:∀ob,(wr.alloc ob).cell? ⟨w.heap.size,4,U⟩=AI (O J py):=λob=>fi (hd ob) 4;have d5:∀ob,(wr.alloc ob).cell? ⟨w.heap.size,5,U⟩=AI (O J pz):=λob=>fi (hd ob) 5;have d6:∀ob,(wr.alloc ob).cell? ⟨w.heap.size,6,U⟩=AI (O J ph):=λob=>fi (hd ob) 6;have d7:∀ob,(wr.alloc ob).cell? ⟨w.heap.size,7,U⟩=AI (O J pq):=λob=>fi (hd ob) 7;have d8:∀ob,(wr.alloc ob).cell? ⟨w.heap.size,8,U⟩=AI (sh pw nw cw):=λob=>fi (hd ob) 8;have HD:Hid _:=hd;clear hd;go_wp2_with fail;have hba:Below wr.heap.size wr (wr.alloc (Ib #[I nd,I oI,I name,I tag,O J ad,O J po,Ic wQ,O J wR,Ic wN] 93)):=(If _ _).alloc (By _) _;refine(X6 here ps pm pw ns cs nm cm nw cw px py pz ph pq ms nd _ (HM.out.below (HB.out.trans (hba.mono alO))) hn).mono ?_;rintro e w1 ⟨rfl,mO⟩;have mY:Hid _:=(HB.out.trans (hba.mono alO)).trans (mO.mono (by simp;omega));have vF:Hid _:=(HG.out.below hba).below mO;have wH:Hid _:=(mO.block _ (by simp;omega)).trans (HD.out _);have rX:=(mO.block _ (by simp)).trans (Ii wr _);have q0:=fi rX 0;have q1:=fi rX 1;have q2:=fi rX 2;have q3:=fi rX 3;have q4:=fi rX 4;have q5:=fi rX 5;have q6:=fi rX 6;have q7:=fi rX 7;have q8:w1.cell? ⟨wr.heap.size,8,U⟩=AI (Ic wN):=fi rX 8;have Mq:Hid (∀g,(M nd).ownBlock=AI g->g<wr.heap.size):=λg h=>(I3 (HG.out.rows nd) g h).2;have avD:Hid (∀g,u6.ownBlock=AI g->g<wr.heap.size):=λg h=>(I3 HG.out.nodes g h).2;have sj:wr.heap.size+1<=w1.heap.size:=by have:=mO.size;simpa using this
   have HGX:Hid (w1.heap[wr.heap.size]?=AI (Ib #[I nd,I oI,I name,I tag,O J ad,O J po,Ic wQ,O J wR,Ic wN] 93 (0,0))):=rX;clear mO hba HG HK HD d0 d1 d2 d3 d4 d5 d6 d7 d8 rX;rcases hout:wL ms nd with _|_
   .have HLV:Hid (nf ms (found.take (k+1))=nf ms (found.take k)++[⟨nd,oI,name,tag,ad,po,wQ,wR,wN⟩]):=by rw[HSK.out];exact KD hout
    generalize nf ms (found.take k)=L at *;obtain⟨pu,lu,cu,hu⟩:∃p l c,M nd=sh p l c:=by
     rcases(vF.out.rows nd).2 with⟨h,h0⟩|⟨g,c,cur,h,_⟩
     .exact⟨U,0,0,h⟩
     .exact⟨_,_,_,h⟩
    have HU:Hid (M nd=sh pu lu cu):=hu;have HLU:Hid (lu=(tf L nd).length):=by
     rcases(vF.out.rows nd).2 with⟨h,h0⟩|⟨g,c,cur,h,_⟩
     .rw[hu] at h;injection h with _ h2 _;show lu=_;omega
     .rw[hu] at h;injection h
    have HAV:Hid ((sh pu lu cu).ownBlock≠AI wr.heap.size):=λh=>by
     have:=Mq.out _ (by rw[HU.out];exact h);omega
    have hlk:(Of 319 (.map (AI (w.heap.size+1))) (I nd) false).run AT w1=.ok (sh pu lu cu) w1:=by rw[<- hu];exact vF.out.map.look DZ
    have K8:k<Il:=by unfold Il;omega
    have hLo:=Wv L nd;have hlm:lu<=40:=by have:=HLU.out;omega
    have h63:lu+1<=Il:=by unfold Il;omega
    have VU:(lu+1)*104<=140737488355328:=by omega
    clear hLo;clear hu;by_cases h0:lu=0
    .have vj:Hid (nF (L++[⟨nd,oI,name,tag,ad,po,wQ,wR,wN⟩])=nF L++[nd]):=aaA (by have:=HLU.out;simp only;omega)
     have aDA:((lu:Int)==0)=true:=by rw[h0];rfl
     clear h0;have hNS:(nF L).length<=40:=by have:=AZ L;omega
     generalize nF L=NS at *;go_wp2_with (at_builtin;refine wpList_append_own_at _ rfl _ _ 107 rfl (w.heap.size+2) 9 j0 _ 1 16 IS hj0 jz0 jzs jzb rfl (by omega) _ NS.length (NS.map I) rfl ?hown ⟨w1.heap.size,0,U⟩ 1 1 [I nd] rfl rfl ?hnews (qj [_]) ?h63 ?hbytes ?hbase ?_)
     case hown=>exact OY vF.out.nodes _
     case hnews=>exact cell_one_new _ _ _
     case h63=>(unfold Il;omega)
     case hbytes=>omega
     case hbase=>(simp;omega)
     intro vn2 w2 r1 r2 r3 r4;have AP:w1.heap.size+1<=w2.heap.size:=by have h:=r2.size;simpa using h
     have Cl:Hid (GH (w.heap.size+2) w2 (w.heap.size+1) k vn2 M (NS++[nd]) L):=(vF.out.below ((If _ _).alloc (By _) (Ib #[I nd] 9))).node nd r1 r2 (by rcases r4 with h|h;exact .inl h;exact .inr ⟨_,h,by simp⟩);have nR:Hid (Below w.heap.size w w2):=(mY.out.alloc (by omega) _).grown r2 (by simp;omega) (λj hj=>by have:=(I3 vF.out.nodes j hj).1;omega);have vN:Hid (w2.heap[w.heap.size]?=AI (Ib (tH here (sh ps ns cs) (sh pm nm cm) px py pz ph pq (sh pw nw cw)) 87 (0,0))):=by
      have h2:=r2.block w.heap.size (by simp;omega) (by intro e;have:=(I3 vF.out.nodes _ e.symm).1;omega);exact h2.trans ((Iv w1 _ _ (by omega)).trans wH.out)
     have GX:w2.heap[wr.heap.size]?=AI (Ib #[I nd,I oI,I name,I tag,O J ad,O J po,Ic wQ,O J wR,Ic wN] 93 (0,0)):=by
      have h2:=r2.block wr.heap.size (by simp;omega) (by intro e;have:=avD.out _ e.symm;omega);exact h2.trans ((Iv w1 _ _ (by omega)).trans HGX.out)
     clear q0 q1 q2 q3 q4 q5 q6 q7 q8 r1 r2 r3 r4 hlk;have q0:w2.cell? ⟨wr.heap.size,0,U⟩=AI (I nd):=fi GX 0;have q1:w2.cell? ⟨wr.heap.size,1,U⟩=AI (I oI):=fi GX 1;have q2:w2.cell? ⟨wr.heap.size,2,U⟩=AI (I name):=fi GX 2;have q3:w2.cell? ⟨wr.heap.size,3,U⟩=AI (I tag):=fi GX 3;have q4:w2.cell? ⟨wr.heap.size,4,U⟩=AI (O J ad):=fi GX 4;have q5:w2.cell? ⟨wr.heap.size,5,U⟩=AI (O J po):=fi GX 5;have q6:w2.cell? ⟨wr.heap.size,6,U⟩=AI (Ic wQ):=fi GX 6;have q7:w2.cell? ⟨wr.heap.size,7,U⟩=AI (O J wR):=fi GX 7;have q8:w2.cell? ⟨wr.heap.size,8,U⟩=AI (Ic wN):=fi GX 8;clear GX;go_wp2_with fail;have GY:(Of 319 (.map (AI (w.heap.size+1))) (I nd) false).run AT w2.drew=.ok (sh pu lu cu) w2.drew:=by have h:=rE.look (show rE w2.drew _ _ _ from Cl.out.map) DZ;rw[HU.out] at h;exact h
     have o8:∀o,(Of 319 (.map (AI (w.heap.size+1))) (I nd) false).run AT (w2.drew.alloc o)=.ok (sh pu lu cu) (w2.drew.alloc o):=λo=>by have h:=rE.look (show rE (w2.drew.alloc o) _ _ _ from Cl.out.map.below (((If _ _).drew).alloc (By _) o)) DZ;rw[HU.out] at h;exact h
     have oR:∀o,(Of 319 (.map (AI (w.heap.size+1))) (I nd) false).run AT (w2.alloc o).drew=.ok (sh pu lu cu) (w2.alloc o).drew:=o8;have hbx:wr.heap.size<w2.heap.size:=II w2 ⟨wr.heap.size,0,U⟩ q0;have B3:w2.ownsRow (w.heap.size+2) 93 9 (sh pu lu cu) lu (Sv.fl (tf L nd)):=by have h:w2.ownsRow (w.heap.size+2) 93 9 (M nd) (tf L nd).length (Sv.fl (tf L nd)):=Cl.out.rows nd;rw[HU.out,<- HLU.out] at h;exact h
     have hav:(sh pu lu cu).ownBlock≠AI wr.heap.size:=HAV.out;have hBW:w.heap.size+2<=w2.heap.size:=by omega
     have HGB:Hid (GH (w.heap.size+2) (w2.alloc (Ib #[I nd,I oI,I name,I tag,O J ad,O J po,Ic wQ,O J wR,Ic wN] 93)).drew (w.heap.size+1) k vn2 M (NS++[nd]) L):=Cl.out.below ((If _ _).alloc (By _) _).drew;go_region_held3 (λw'=>w'.cell? ⟨wr.heap.size,0,U⟩=AI (I nd)/\w'.cell? ⟨wr.heap.size,1,U⟩=AI (I oI)/\w'.cell? ⟨wr.heap.size,2,U⟩=AI (I name)/\w'.cell? ⟨wr.heap.size,3,U⟩=AI (I tag)/\w'.cell? ⟨wr.heap.size,4,U⟩=AI (O J ad)/\w'.cell? ⟨wr.heap.size,5,U⟩=AI (O J po)/\w'.cell? ⟨wr.heap.size,6,U⟩=AI (Ic wQ)/\w'.cell? ⟨wr.heap.size,7,U⟩=AI (O J wR)/\w'.cell? ⟨wr.heap.size,8,U⟩=AI (Ic wN))
      (first
        |go_keep
        |(go_split_ands
          refine⟨?_,?_,?_,?_,?_,?_,?_,?_,?_⟩;all_goals (rw[oB.cell_far _ (by simp;omega) (O2 hav)];assumption))
        |(go_split_ands
          refine⟨?_,?_,?_,?_,?_,?_,?_,?_,?_⟩;all_goals (rw[EA.cell_far _ (by show wr.heap.size<_;have:=oB.size;simp at this;omega) (by intro e;have e2:wr.heap.size=w.heap.size+1:=Jq e;omega)];assumption)))
      ((refine Qm _ (by rfl) _ _ _ (by rfl) (w.heap.size+2) 93 i0 _ 9 104 Oz qg oS so sf rfl (by omega) (sh pu lu cu) lu (Sv.fl (tf L nd)) (by rfl) ((OY B3 _).drew)
         ⟨w2.heap.size,0,U⟩ 1 1 [I nd,I oI,I name,I tag,O J ad,O J po,Ic wQ,O J wR,Ic wN] (by rfl) (by rfl) (Uk (cs:=#[I nd,I oI,I name,I tag,O J ad,O J po,Ic wQ,O J wR,Ic wN]) (t:=93) (fr:=(0,0)) (Ii w2 _)) (by simp[Value.oneCell'])
         (by omega) h63 VU (by simp;omega) (w2.heap.size+1) (by simp) ?_;intro gg cap w5 uP oB qi mS;obtain⟨w6,aek,HG6,EA⟩:=GH.put HGB.out ⟨nd,oI,name,tag,ad,po,wQ,wR,wN⟩ DZ K8 (v':=sh (AI ⟨gg,0,U⟩) (lu+1) cap) (aei HLU.out uP) (by rw[HU.out];exact oB) (by rw[HU.out];rcases qi with h|h;exact .inl h.symm;exact .inr ⟨gg,rfl,by simp;omega⟩)))
     all_goals
      have hs5:w2.heap.size+1<=w5.heap.size:=by have h:=oB.size;simpa using h
      have tq:Hid (Below w.heap.size w w6):=((nR.out.alloc (by omega) _).drew.grown oB (by simp;omega) (λj hj=>by have:=(I3 B3 j hj).1;omega)).grown EA (by omega) (λj hj=>by cases hj;omega);have Ww:Hid (w6.heap[w.heap.size]?=AI (Ib (tH here (sh ps ns cs) (sh pm nm cm) px py pz ph pq (sh pw nw cw)) 87 (0,0))):=by
       have h1:=EA.block w.heap.size (by omega) (by intro e;have e2:=Jq e;omega);have h2:=oB.block w.heap.size (by simp;omega) (by intro e;have:=(I3 B3 _ e.symm).1;omega);exact h1.trans (h2.trans ((Iv w2 _ _ (by omega)).trans vN.out))
      have HG7:Hid (GH (w.heap.size+2) w6 (w.heap.size+1) (k+1) vn2 (aef M nd (sh (AI ⟨gg,0,U⟩) (lu+1) cap)) (NS++[nd]) (L++[⟨nd,oI,name,tag,ad,po,wQ,wR,wN⟩])):=HG6;clear HG6 EA aek oB uP qi mS B3 GY o8 oR;go_wp2_with fail;exact⟨⟨k+1,_,by omega,by go_num,by rw[HLV.out,vj.out];exact HG7,tq,Ww⟩,by simp[intOf];omega⟩
    .have vj:Hid (nF (L++[⟨nd,oI,name,tag,ad,po,wQ,wR,wN⟩])=nF L):=aaB (by have:=HLU.out;simp only;omega)
     have GY:((lu:Int)==0)=false:=by simpa using h0
     generalize nF L=NS at *;go_wp2_with fail;have GY:(Of 319 (.map (AI (w.heap.size+1))) (I nd) false).run AT w1.drew=.ok (sh pu lu cu) w1.drew:=by have h:=rE.look (show rE w1.drew _ _ _ from vF.out.map) DZ;rw[HU.out] at h;exact h
     have o8:∀o,(Of 319 (.map (AI (w.heap.size+1))) (I nd) false).run AT (w1.drew.alloc o)=.ok (sh pu lu cu) (w1.drew.alloc o):=λo=>by have h:=rE.look (show rE (w1.drew.alloc o) _ _ _ from vF.out.map.below (((If _ _).drew).alloc (By _) o)) DZ;rw[HU.out] at h;exact h
     have oR:∀o,(Of 319 (.map (AI (w.heap.size+1))) (I nd) false).run AT (w1.alloc o).drew=.ok (sh pu lu cu) (w1.alloc o).drew:=o8;have hbx:wr.heap.size<w1.heap.size:=II w1 ⟨wr.heap.size,0,U⟩ q0;have B3:w1.ownsRow (w.heap.size+2) 93 9 (sh pu lu cu) lu (Sv.fl (tf L nd)):=by have h:w1.ownsRow (w.heap.size+2) 93 9 (M nd) (tf L nd).length (Sv.fl (tf L nd)):=vF.out.rows nd;rw[HU.out,<- HLU.out] at h;exact h
     have hav:(sh pu lu cu).ownBlock≠AI wr.heap.size:=HAV.out;have hBW:w.heap.size+2<=w1.heap.size:=by omega
     have HGB:Hid (GH (w.heap.size+2) (w1.alloc (Ib #[I nd,I oI,I name,I tag,O J ad,O J po,Ic wQ,O J wR,Ic wN] 93)).drew (w.heap.size+1) k u6 M NS L):=vF.out.below ((If _ _).alloc (By _) _).drew;go_region_held3 (λw'=>w'.cell? ⟨wr.heap.size,0,U⟩=AI (I nd)/\w'.cell? ⟨wr.heap.size,1,U⟩=AI (I oI)/\w'.cell? ⟨wr.heap.size,2,U⟩=AI (I name)/\w'.cell? ⟨wr.heap.size,3,U⟩=AI (I tag)/\w'.cell? ⟨wr.heap.size,4,U⟩=AI (O J ad)/\w'.cell? ⟨wr.heap.size,5,U⟩=AI (O J po)/\w'.cell? ⟨wr.heap.size,6,U⟩=AI (Ic wQ)/\w'.cell? ⟨wr.heap.size,7,U⟩=AI (O J wR)/\w'.cell? ⟨wr.heap.size,8,U⟩=AI (Ic wN))
      (first
        |go_keep
        |(go_split_ands
          refine⟨?_,?_,?_,?_,?_,?_,?_,?_,?_⟩;all_goals (rw[oB.cell_far _ (by simp;omega) (O2 hav)];assumption))
        |(go_split_ands
          refine⟨?_,?_,?_,?_,?_,?_,?_,?_,?_⟩;all_goals (rw[EA.cell_far _ (by show wr.heap.size<_;have:=oB.size;simp at this;omega) (by intro e;have e2:wr.heap.size=w.heap.size+1:=Jq e;omega)];assumption)))
      ((refine Qm _ (by rfl) _ _ _ (by rfl) (w.heap.size+2) 93 i0 _ 9 104 Oz qg oS so sf rfl (by omega) (sh pu lu cu) lu (Sv.fl (tf L nd)) (by rfl) ((OY B3 _).drew)
         ⟨w1.heap.size,0,U⟩ 1 1 [I nd,I oI,I name,I tag,O J ad,O J po,Ic wQ,O J wR,Ic wN] (by rfl) (by rfl) (Uk (cs:=#[I nd,I oI,I name,I tag,O J ad,O J po,Ic wQ,O J wR,Ic wN]) (t:=93) (fr:=(0,0)) (Ii w1 _)) (by simp[Value.oneCell'])
         (by omega) h63 VU (by simp;omega) (w1.heap.size+1) (by simp) ?_;intro gg cap w5 uP oB qi mS;obtain⟨w6,aek,HG6,EA⟩:=GH.put HGB.out ⟨nd,oI,name,tag,ad,po,wQ,wR,wN⟩ DZ K8 (v':=sh (AI ⟨gg,0,U⟩) (lu+1) cap) (aei HLU.out uP) (by rw[HU.out];exact oB) (by rw[HU.out];rcases qi with h|h;exact .inl h.symm;exact .inr ⟨gg,rfl,by simp;omega⟩)))
     all_goals
      have hs5:w1.heap.size+1<=w5.heap.size:=by have h:=oB.size;simpa using h
      have tq:Hid _:=((mY.out.alloc (by omega) _).drew.grown oB (by simp;omega) (λj hj=>by have:=(I3 B3 j hj).1;omega)).grown EA (by omega) (λj hj=>by cases hj;omega);have Ww:Hid (w6.heap[w.heap.size]?=AI (Ib (tH here (sh ps ns cs) (sh pm nm cm) px py pz ph pq (sh pw nw cw)) 87 (0,0))):=by
       have h1:=EA.block w.heap.size (by omega) (by intro e;have e2:=Jq e;omega);have h2:=oB.block w.heap.size (by simp;omega) (by intro e;have:=(I3 B3 _ e.symm).1;omega);exact h1.trans (h2.trans ((Iv w1 _ _ (by omega)).trans wH.out))
      have HG7:Hid _:=HG6;clear HG6 EA aek oB uP qi mS B3 GY o8 oR;go_wp2_with fail;exact⟨⟨k+1,_,by omega,by go_num,by rw[HLV.out,vj.out];exact HG7,tq,Ww⟩,by simp[intOf];omega⟩
   .have HLV:Hid (nf ms (found.take (k+1))=nf ms (found.take k)):=by rw[HSK.out];exact KE hout
    go_wp2_with fail;go_roundw
    case rel=>exact⟨k+1,M,by omega,by go_num,by rw[HLV.out];exact vF.out.more (by omega),mY,wH⟩
    case measure=>simp[intOf];omega
  .have tp:k=n:=by omega
   have HLV:Hid (nf ms (found.take k)=nf ms found):=by rw[IJ (by rw[HN.out];omega)];rfl
   have DZ:∀s∈nF (nf ms found),s.size<=Il:=λs hs=>by
    obtain⟨x,hx,e⟩:=(ua _ s).1 hs;have h1:=(JT.1 hx).1;rw[<- e];exact(Sv.rA HFS.out x h1).1
   have HTS:Hid (Bi wr u6 (nF (nf ms found))):=by
    have h:=HG.out.nodes;rw[HLV.out] at h;exact Pd h DZ
   have HGL:Hid (GH (w.heap.size+2) wr (w.heap.size+1) k u6 M (nF (nf ms found)) (nf ms found)):=by
    have h:=HG.out;rw[HLV.out] at h;exact h
   have hLn:(nf ms found).length<=40:=by have h1:=xt ms found;have h2:=HN.out;omega
   have avH:Hid (∀x∈nf ms found,x.ok):=λx hx=>Sv.rA HFS.out x (JT.1 hx).1;have apO:Hid _:=HSO.out u6 wr (HWH.out.below HB.out) HTS.out;have d3:=fi HK.out 3;have d4:=fi HK.out 4;have d5:=fi HK.out 5;have d6:=fi HK.out 6;have d7:=fi HK.out 7;have d8:=fi HK.out 8;clear DZ HG HTS HSO HA;generalize hLL:nf ms found=L at *;have CI:Hid _:=hLL;clear hLL;go_wp2_with fail;refine Calls.mono apO.out ?_;rintro e w3 ⟨vs,E,rfl,ts,nC⟩;have V0:=nC.size;have oT:Hid _:=HB.out.trans (nC.mono alO);have HG3:Hid _:=HGL.out.below nC;obtain⟨pv,cv,rfl,hvz,hva⟩:=ts;have HVA:Hid _:=hva;have HVZ:Hid _:=hvz;clear hva hvz nC apO HGL d3 d4 d5 d6 d7 d8;generalize hMM:SL.length=m at *;have Rs:Hid _:=hMM;clear hMM;go_wp2_with fail;go_loopw [11,58] (λvl i wr=>∃j:Nat,j<=m/\i=O J j/\Hid (Sv.Own w3.heap.size wr vl (qp (SL.take j) L))/\Hid (Below w3.heap.size w3 wr)) (λ_ i _=>m-(intOf i).toNat)
   case atStart=>exact⟨0,Iw _,rfl,Sv.nh _ _,If _ _⟩
   case round=>
    obtain⟨j,hj,rfl,HO,qP⟩:=hrel;have Lh:=qP.out.size;have hAL:(qp (SL.take j) L).length<=1600:=by
     have h1:=Pb (SL.take j) L;have h2:(SL.take j).length<=40:=by have:=Oh j SL;omega
     have h3:=Nat.mul_le_mul h2 hLn;omega
    by_cases RV:j<m
    .obtain⟨bv,ov,tr,hlv,hrv⟩:∃b off,pv=AI ⟨b,off,U⟩/\b<w3.heap.size/\acH w3 b off SL:=by
      rcases HVA.out with h|h
      .have:=Rs.out;rw[h] at this;simp at this;omega
      .exact h
     subst tr;have VD:j<SL.length:=by rw[Rs.out];exact RV
     have cN:=(qP.out.cell (p:=⟨bv,ov+j,U⟩) hlv).trans (hrv j VD);have apP:SL.getD j Ie∈nF L:=Pf.out _ (by simp[Ip,Ih VD]);have nK:(tf L (SL.getD j Ie)).length≠0:=λh=>Pa h apP;have yB:Hid (qp (SL.take (j+1)) L=qp (SL.take j) L++tf L (SL.getD j Ie)):=CW VD;have LU:=HVZ.out j;clear apP hrv;generalize SL.getD j Ie=nd at *;have hon:=Wv L nd;obtain⟨g,cu,hu⟩:=Sv.wV (HG3.out.rows nd) 0 (by omega);have hr4:wr.ownsRow (w.heap.size+2) 93 9 (sh (AI ⟨g,0,U⟩) (tf L nd).length cu) (tf L nd).length (Sv.fl (tf L nd)):=by
      have h:=(HG3.out.rows nd).below qP.out;rw[hu] at h;exact h
     have hlk:(Of 319 (.map (AI (w.heap.size+1))) (I nd) false).run AT wr=.ok (sh (AI ⟨g,0,U⟩) (tf L nd).length cu) wr:=by rw[<- hu];exact(HG3.out.map.below qP.out).look LU
     have HNW:Hid _:=tD hr4;have Rj:Hid ((Sv.fl (tf L nd)).length=(tf L nd).length*9):=Sv.pD _;have HON:Hid (∀v' w',wr.ownsRow w3.heap.size 93 9 u11 (qp (SL.take j) L).length (Sv.fl (qp (SL.take j) L))->w'.ownsRow w3.heap.size 93 9 v' ((qp (SL.take j) L).length+(tf L nd).length) (Sv.fl (qp (SL.take j) L)++Sv.fl (tf L nd))->Sv.Own w3.heap.size w' v' (qp (SL.take (j+1)) L)):=λv' w' _ h=>by
      rw[yB.out];show w'.ownsRow _ _ _ _ (qp (SL.take j) L++tf L nd).length _;rw[Iq,Sv.rV];exact h
     clear hu hr4;generalize hof:tf L nd=NL at *;generalize qp (SL.take j) L=AL at *;generalize hlu:NL.length=lu at *;have HLU:Hid _:=hlu;clear hof hlu;go_wp2_with (at_builtin;refine IY _ rfl _ _ 24 rfl w3.heap.size 93 i0 _ 9 104 Oz qg oS so sf rfl (by omega) _ AL.length (Sv.fl AL) rfl ?hown ⟨g,0,U⟩ lu cu (Sv.fl NL) rfl ?hl ?hnews (Sv.tA _) ?h63 ?hbytes ?hbase ?_)
     case hown=>exact HO.out
     case hl=>exact Rj.out
     case hnews=>exact HNW.out
     case h63=>(unfold Il;omega)
     case hbytes=>omega
     case hbase=>exact Lh
     intro v' w4 r1 r2 r3;have Nt:Hid (Sv.Own _ _ _ _):=HON.out v' w4 HO.out r1;have qB:Hid _:=qP.out.grown r2 Lh (λk hk=>(HO.out.lt k hk).1);clear r1 r2 r3;go_wp2_with fail;go_roundw
     case rel=>exact⟨j+1,by omega,by go_num,Nt,qB⟩
     case measure=>simp[intOf];omega
    .have HOA:Hid (Sv.Own w3.heap.size wr u11 (qp SL L)):=by
      have h:=HO.out;rw[IJ (by rw[Rs.out];omega)] at h;exact h
     have aDG:(qp SL L).length<=1600:=by rw[IJ (by rw[Rs.out];omega)] at hAL;exact hAL
     have avK:Hid (∀x∈qp SL L,x.ok):=λx hx=>by
      obtain⟨n',_,h2⟩:=List.mem_flatMap.1 hx;exact avH.out x (JT.1 h2).1
     have HBE:Hid _:=oT.out.trans (qP.out.mono (by omega));clear HO hAL;have avL:Hid (Sv.Sl _ _ _):=Sv.o7 HOA.out avK.out;generalize hAA:qp SL L=AL at *;have HAA:Hid _:=hAA;clear hAA;rcases HOA.out.2 with⟨hv,h0⟩|⟨g,c,cur,hv,_,hg,rF,qw,_,nA⟩
     .subst hv
      have hAe:=I5 h0;have hA0:=h0;clear h0;go_wp2_with fail;go_ret;refine⟨_,rfl,?_,HBE.out⟩;rw[CI.out,HAA.out,hAe];exact⟨U,0,rfl,λj=>by simpa using Sv.Ah,.inl rfl⟩
     .subst hv
      clear hg nA;go_wp2_with fail;go_ret;refine⟨_,rfl,?_,HBE.out⟩;rw[CI.out,HAA.out];have h:=ahL (m:=20) avL.out;rw[show(AL.take 20).length=(min (AL.length:Int) 20).toNat by simp;omega] at h;exact h
end Go.Proofs.YtipbebleapjcjaaGreatDoor
namespace Go.Proofs.YtipbebleapjcjaaGreatDoor
open Go.RowKit
theorem rcI:(Tryz.prog.info? 104).map (λi=>(i.zero,i.size,i.bytes))=AI (AI (Iu #[I ⟨#[]⟩,O J 0,O J 0,O J 0,I ⟨#[]⟩,O J 0,I ⟨#[]⟩]),7,80):=by kernel_rfl
theorem aem{L:List Sv.nj}{f:Sv.nj->Rc.Rec}{k:Nat}(h:k<L.length):(L.take (k+1)).map f=(L.take k).map f++[f (L.getD k Sv.dm)]:=by
 rw[vI h];simp
theorem Pg{q:Qu}{tag:ByteArray}(h:pt q=0)(hn:q.node.size=0)(ht:tag=q.tag\/tag=⟨#[]⟩):Sv.VZ q.service tag=0:=by
 obtain⟨z0,z1,z2,_,_,_⟩:=tX h;have hs:q.service.size≠0:=λe=>by unfold zX at z0;simp[e,hn] at z0
 have hl:mT q.service=true:=by
  have h1:(decide (q.service=Ie)||mT q.service)=true:=z1;have h2:decide (q.service=Ie)=false:=by simpa using λe=>hs (by rw[e];rfl)
  rw[h2] at h1;simpa using h1
 have htg:Sv.xI tag=true:=by
  rcases ht with rfl|rfl
  .exact z2
  .rfl
 unfold Sv.VZ;rw[hl,htg];rfl
theorem yR{B:Nat}{w:World}{v:Value}{ms:List Sv.nj}(h:Sv.Own B w v ms):∃p c,v=sh p ms.length c:=by
 rcases h.2 with⟨hv,h0⟩|⟨g,c,cur,hv,_⟩
 .exact⟨U,0,by rw[hv,h0]⟩
 .exact⟨_,c,hv⟩
structure B4(here:ByteArray)(sv:List Sv.nj)(ms:List Mem)(p:Pl)(wh:List Wh.nZ):Prop where
 lab:mT here=true
 sv:Sv.nu sv=0
 ms:nu ms=0
 pl:Km p wh=0
theorem ahM{here:ByteArray}{sv:List Sv.nj}{ms:List Mem}{p:Pl}{wh:List Wh.nZ}(h:Ab here sv ms p wh=0):B4 here sv ms p wh:=by
 unfold Ab at h;by_cases h1:mT here=true
 .rw[if_pos h1] at h
  by_cases h2:Sv.nu sv=0
  .rw[if_pos h2] at h
   by_cases h3:nu ms=0
   .rw[if_pos h3] at h
    exact⟨h1,h2,h3,h⟩
   .rw[if_neg h3] at h;exact absurd h h3
  .rw[if_neg h2] at h;exact absurd h h2
 .rw[if_neg h1] at h;omega
theorem B4.sort{here:ByteArray}{sv:List Sv.nj}{ms:List Mem}{p:Pl}{wh:List Wh.nZ}(h:B4 here sv ms p wh){ns:List ByteArray}(hn:ns.length<=100):xk p wh ns=0/\yL p wh ns=GD p wh ns:=by
 have h1:=h.pl;unfold Km at h1;by_cases hm:20<wh.length
 .rw[if_pos hm] at h1;omega
 .rw[if_neg hm] at h1
  have e:xk p wh ns=0:=by unfold xk;rw[if_neg (by omega)];exact h1
  exact⟨e,by unfold yL;rw[if_pos e]⟩
theorem Wx(p:Pl)(wh:List Wh.nZ)(ns:List ByteArray):(GD p wh ns).length=ns.length:=by
 unfold GD;have:=So.AV (Dp (dV (Dd (qR p) wh wh.length))) ns (MX _) ns.length (By _)
 rwa [List.take_length] at this
theorem ahN{s:ByteArray}(h:mT s=true):s.size<=Il:=by
 unfold mT at h;simp at h;unfold Il;omega
theorem aen(here:ByteArray)(ps pm pw:Option Addr)(ns cs nm cm nw cw:Nat)(px py pz ph pq:Int)(sv:List Sv.nj)(ms:List Mem)(wh:List Wh.nZ)(found:List Sv.nj)(vf:Value)(w:World)(hk:B4 here sv ms ⟨px,py,pz,ph,pq⟩ wh)(hm:Sl w (sh pm nm cm) ms)(hw:Wh.Sl w (sh pw nw cw) wh)(hf:Sv.Sl w vf found)(uU:found.length<=40) :
 Calls AT 260 #[Iu (tH here (sh ps ns cs) (sh pm nm cm) px py pz ph pq (sh pw nw cw)),vf] w λe w'=>∃v',e=Ia v'/\Sv.Sl w' v' (si ⟨px,py,pz,ph,pq⟩ wh ms found)/\Below w.heap.size w w':=by
 have hl:=xt ms found;have oR:=AZ (nf ms found);have hn:nm<=1000:=by
  obtain⟨_,_,he,_,_⟩:=id hm;simp only[IM] at he;have:=(mU hk.ms).1;omega
 obtain⟨hE,hL⟩:=hk.sort (ns:=nF (nf ms found)) (by omega);refine Pe here ps pm pw ns cs nm cm nw cw px py pz ph pq ms found wh (GD ⟨px,py,pz,ph,pq⟩ wh (nF (nf ms found))) vf w hm hf hw hn uU (λvn W h1 h2=>?_) (λx hx=>Wc.1 hx) (by rw[Wx];omega);refine(adz ⟨px,py,pz,ph,pq⟩ wh (sh pw nw cw) vn _ W h1 h2).mono ?_;rintro e w' ⟨v',rfl,h3,_,h4⟩;rw[hL] at h3;exact⟨v',_,rfl,h3,h4⟩
theorem GZ(here:ByteArray)(ps pm pw:Option Addr)(ns cs nm cm nw cw:Nat)(px py pz ph pq:Int)(q:Qu)(name:ByteArray)(t:Int)(sv:List Sv.nj)(ms:List Mem)(wh:List Wh.nZ)(w:World)(hq:q.ok)(h0:pt q=0)(hn0:q.node.size=0)(hk:B4 here sv ms ⟨px,py,pz,ph,pq⟩ wh)(hs:Sv.Sl w (sh ps ns cs) sv)(hm:Sl w (sh pm nm cm) ms)(hw:Wh.Sl w (sh pw nw cw) wh)(Ph:name=tN q) :
 Calls AT 229 #[Iu (tH here (sh ps ns cs) (sh pm nm cm) px py pz ph pq (sh pw nw cw)),Iu #[I q.service,I q.tag,I q.node,I q.mM],Iu #[I name,O J t,O J 0,O J 0,I ⟨#[]⟩,O J 0,I ⟨#[]⟩]] w λe w'=>∃v,e=Ia (Ir #[v,O J (ub q t here sv ms ⟨px,py,pz,ph,pq⟩ wh).code,O J (ub q t here sv ms ⟨px,py,pz,ph,pq⟩ wh).e])/\Rc.Own w.heap.size w' v (ub q t here sv ms ⟨px,py,pz,ph,pq⟩ wh).rs/\Below w.heap.size w w':=by
 obtain⟨i0,qg,oS,so,sf⟩:=Jc rcI;have hF1:=λ(W:World) (h:Sv.Sl W (sh ps ns cs) sv)=>Sv.Fl sv (sh ps ns cs) q.service ⟨#[]⟩ W h hk.sv hq.1 (by decide) (Pg h0 hn0 (.inr rfl));have hF2:=λ(W:World) (h:Sv.Sl W (sh ps ns cs) sv)=>Sv.Fl sv (sh ps ns cs) q.service q.tag W h hk.sv hq.1 hq.2.1 (Pg h0 hn0 (.inl rfl));have Mr:Hid _:=hF1;have zy:Hid _:=hF2;have uU:(Sv.nc sv q.service q.tag).length<=40:=by have h1:=Sv.zA sv q.service q.tag;have h2:=(Sv.mU hk.sv).1;omega
 have HFO:Hid (∀x∈Sv.nc sv q.service q.tag,x.ok):=Sv.M8 (by obtain⟨_,_,_,h,_⟩:=hs;exact Sv.rA h);have HNE:Hid (∀W vf,Sl W (sh pm nm cm) ms->Wh.Sl W (sh pw nw cw) wh->Sv.Sl W vf (Sv.nc sv q.service q.tag)->Calls _ _ _ _ _):=λW vf h1 h2 h3=>aen here ps pm pw ns cs nm cm nw cw px py pz ph pq sv ms wh _ vf W hk h1 h2 h3 uU;have Mx:Hid (Sv.nc sv q.service ⟨#[]⟩=[]->ub q t here sv ms ⟨px,py,pz,ph,pq⟩ wh=⟨[],3,0⟩):=λh=>by unfold ub;rw[if_pos h]
 have AB:Hid (Sv.nc sv q.service ⟨#[]⟩≠[]->qJ here t (si ⟨px,py,pz,ph,pq⟩ wh ms (Sv.nc sv q.service q.tag))=0->ub q t here sv ms ⟨px,py,pz,ph,pq⟩ wh=⟨(si ⟨px,py,pz,ph,pq⟩ wh ms (Sv.nc sv q.service q.tag)).map (pG name here t),0,0⟩):=λh h2=>by unfold ub;rw[if_neg h,if_pos h2,Ph]
 have DG:Hid (Sv.nc sv q.service ⟨#[]⟩≠[]->qJ here t (si ⟨px,py,pz,ph,pq⟩ wh ms (Sv.nc sv q.service q.tag))≠0->ub q t here sv ms ⟨px,py,pz,ph,pq⟩ wh=⟨[],0,qJ here t (si ⟨px,py,pz,ph,pq⟩ wh ms (Sv.nc sv q.service q.tag))⟩):=λh h2=>by unfold ub;rw[if_neg h,if_neg h2]
 have hnl:=Nv ⟨px,py,pz,ph,pq⟩ wh ms (Sv.nc sv q.service q.tag);have avM:Hid (∀(s:Sv.nj) (W:World),s.node.size<=Il->Calls _ _ _ _ _):=λs W h=>Nx here ps pm pw ns cs nm cm nw cw px py pz ph pq name t s W (ahN hk.lab) h;have HS:Hid (Sv.Sl _ _ _):=hs;have HM:Hid (Sl _ _ _):=hm;have HW:Hid (Wh.Sl _ _ _):=hw;clear hF1 hF2 hs hm hw hk hn0 h0 Ph;generalize ub q t here sv ms ⟨px,py,pz,ph,pq⟩ wh=A at *;generalize si ⟨px,py,pz,ph,pq⟩ wh ms (Sv.nc sv q.service q.tag)=NL at *;generalize Sv.nc sv q.service q.tag=FL at *;generalize Sv.nc sv q.service ⟨#[]⟩=F0 at *;obtain⟨qs,qt,qn,qc⟩:=q;simp only at *;go_enter func229,ntmps229;go_wp2_with fail;obtain⟨W,hW⟩:∃W,W=((w.alloc (Ib (tH here (sh ps ns cs) (sh pm nm cm) px py pz ph pq (sh pw nw cw)) 87)).alloc (Ib #[I qs,I qt,I qn,I qc] 67)).alloc (Ib #[I name,O J t,O J 0,O J 0,I ⟨#[]⟩,O J 0,I ⟨#[]⟩] 104):=⟨_,rfl⟩;rw[<- hW];have rj:Below w.heap.size w W:=by rw[hW];exact(((If _ _).alloc (By _) _).alloc (by simp) _).alloc (by simp<;>omega) _
 have Kj:Hid (W.heap[w.heap.size]?=AI (Ib (tH here (sh ps ns cs) (sh pm nm cm) px py pz ph pq (sh pw nw cw)) 87 (0,0))):=by
  rw[hW,Iv _ _ _ (by simp<;>omega),Iv _ _ _ (by simp)];exact Ii w _
 have Ch:W.heap[w.heap.size+1]?=AI (Ib #[I qs,I qt,I qn,I qc] 67 (0,0)):=by
  rw[hW,Iv _ _ _ (by simp)];have h:=Ii (w.alloc (Ib (tH here (sh ps ns cs) (sh pm nm cm) px py pz ph pq (sh pw nw cw)) 87)) (Ib #[I qs,I qt,I qn,I qc] 67);simpa using h
 have hG2:W.heap[w.heap.size+2]?=AI (Ib #[I name,O J t,O J 0,O J 0,I ⟨#[]⟩,O J 0,I ⟨#[]⟩] 104 (0,0)):=by
  rw[hW];have h:=Ii ((w.alloc (Ib (tH here (sh ps ns cs) (sh pm nm cm) px py pz ph pq (sh pw nw cw)) 87)).alloc (Ib #[I qs,I qt,I qn,I qc] 67)) (Ib #[I name,O J t,O J 0,O J 0,I ⟨#[]⟩,O J 0,I ⟨#[]⟩] 104);simpa using h
 have vF:Hid _:=Ch;have Cl:Hid _:=hG2;clear Ch hG2;have CB:w.heap.size+3<=W.heap.size:=by rw[hW];simp
 clear hW;refine Calls.mono (Mr.out W (HS.out.below rj)) ?_;rintro e w1 ⟨v1,rfl,Hk,mO⟩;obtain⟨p1,c1,rfl⟩:=yR Hk;have mY:Hid _:=rj.trans (mO.mono (by omega));have Dw:Hid _:=mO;have sj:=mO.size;clear Hk mO;by_cases he:F0=[]
 .have HR:Hid _:=Mx.out he
  have h00:F0.length=0:=by rw[he];rfl
  clear he Mx AB DG;generalize F0.length=n0 at *;subst h00;go_wp2_with fail;go_ret3
  exact⟨sh U 0 0,by rw[HR.out];rfl,by rw[HR.out];exact Rc.nh _ _,mY.out⟩
 .have h00:(((F0.length:Nat):Int)==0)=false:=by
   have:F0.length≠0:=λh=>he (I5 h)
   simpa using this
  have Ae:Hid _:=AB.out he;have Pj:Hid _:=DG.out he;clear Mx AB DG he;generalize F0.length=n0 at *;have k0:=(Dw.out.block _ (by omega)).trans Kj.out;have k1:=(Dw.out.block _ (by omega)).trans vF.out;have d0:=fi k0 0;have d1:=fi k0 1;have d2:=fi k0 2;have d3:=fi k0 3;have d4:=fi k0 4;have d5:=fi k0 5;have d6:=fi k0 6;have d7:=fi k0 7;have d8:=fi k0 8;have q0:=fi k1 0;have q1:=fi k1 1;have q2:=fi k1 2;have q3:=fi k1 3;clear k0 k1;go_wp2_with fail;refine Calls.mono (zy.out w1 (HS.out.below mY.out)) ?_;rintro e w2 ⟨v2,rfl,xW,mZ⟩;have AP:=mZ.size;have HX2:Hid _:=Dw.out.trans (mZ.mono sj);have nR:Hid _:=mY.out.trans (mZ.mono (by omega));have HSF:Hid (Sv.Sl w2 v2 FL):=Sv.o7 xW HFO.out;clear d0 d1 d2 d3 d4 d5 d6 d7 d8 q0 q1 q2 q3 xW mZ;have k0:=(HX2.out.block _ (by omega)).trans Kj.out;have d0:=fi k0 0;have d1:=fi k0 1;have d2:=fi k0 2;have d3:=fi k0 3;have d4:=fi k0 4;have d5:=fi k0 5;have d6:=fi k0 6;have d7:=fi k0 7;have d8:=fi k0 8;clear k0;go_wp2_with fail;refine Calls.mono (HNE.out w2 v2 (HM.out.below nR.out) (HW.out.below nR.out) HSF.out) ?_;rintro e X ⟨v3,rfl,DA,nC⟩;have V0:=nC.size;have HX3:Hid _:=HX2.out.trans (nC.mono (by omega));have oT:Hid _:=nR.out.trans (nC.mono (by omega));clear d0 d1 d2 d3 d4 d5 d6 d7 d8 nC;obtain⟨pn,cn,rfl,LU,Ap⟩:=DA;have HNA:Hid _:=Ap;have HNZ:Hid _:=LU;have K0:Hid _:=(HX3.out.block _ (by omega)).trans Kj.out;have K2:Hid _:=(HX3.out.block _ (by omega)).trans Cl.out;have hKX:w.heap.size+3<=X.heap.size:=by omega
  clear Ap LU;generalize M4:NL.length=n at *;have vj:Hid _:=M4;clear M4;go_wp2_with fail;go_loopw [13,43] (λvl i wr=>∃k:Nat,k<=n/\i=O J k/\Hid (Rc.Own X.heap.size wr vl ((NL.take k).map (pG name here t)))/\Hid (Below X.heap.size X wr)/\Hid (∀j,j<k->qI here t (NL.getD j Sv.dm)=0)) (λ_ i _=>n-(intOf i).toNat)
  case atStart=>exact⟨0,Iw _,rfl,Rc.nh _ _,If _ _,λj hj=>absurd hj (IV _)⟩
  case round=>
   obtain⟨k,hk,rfl,HO,HB,HZ⟩:=hrel;have hsr:=HB.out.size;by_cases mS:k<n
   .obtain⟨b,off,tr,o8,hr⟩:∃b off,pn=AI ⟨b,off,U⟩/\b<X.heap.size/\Sv.Row X b off NL:=by
     rcases HNA.out with h|h
     .have:=vj.out;rw[h] at this;simp at this;omega
     .exact h
    subst tr;have EU:k<NL.length:=by rw[vj.out];exact mS
    obtain⟨c0,c1,c2,c3,c4,c5,c6,c7,c8⟩:=hr.later HB.out o8 k EU;clear hr;have Kz:Hid ((NL.take (k+1)).map (pG name here t)=(NL.take k).map (pG name here t)++[pG name here t (NL.getD k Sv.dm)]):=aem EU;have DZ:=(HNZ.out k).1;have HER:Hid (qI here t (NL.getD k Sv.dm)≠0->qJ here t NL=qI here t (NL.getD k Sv.dm)):=λh=>Fx EU HZ.out h;have o6:Hid (qI here t (NL.getD k Sv.dm)=0->∀j,j<k+1->qI here t (NL.getD j Sv.dm)=0):=λh j hj=>by
     by_cases e:j=k
     .subst e;exact h
     .exact HZ.out j (by omega)
    have hRC:=λW=>avM.out (NL.getD k Sv.dm) W DZ;have NO:Hid _:=hRC;clear hRC;have hln:((NL.take k).map (pG name here t)).length<=20:=by rw[I8];have:=Oh k NL;omega
    generalize NL.getD k Sv.dm=x at *;generalize qI here t x=ek at *;generalize pG name here t x=rk at *;generalize(NL.take k).map (pG name here t)=DL at *;obtain⟨nd,oI,Fz,tag,ad,po,wQ,wR,wN⟩:=x;simp only at c0 c1 c2 c3 c4 c5 c6 c7 c8 DZ;have hd:∀ob,(wr.alloc ob).heap[w.heap.size]?=AI (Ib (tH here (sh ps ns cs) (sh pm nm cm) px py pz ph pq (sh pw nw cw)) 87 (0,0)):=λob=>by rw[Iv _ _ _ (by omega),HB.out.block _ (by omega)];exact K0.out
    have hd2:∀ob,(wr.alloc ob).heap[w.heap.size+2]?=AI (Ib #[I name,O J t,O J 0,O J 0,I ⟨#[]⟩,O J 0,I ⟨#[]⟩] 104 (0,0)):=λob=>by rw[Iv _ _ _ (by omega),HB.out.block _ (by omega)];exact K2.out
    have d0:∀ob,(wr.alloc ob).cell? ⟨w.heap.size,0,U⟩=AI (I here):=λob=>fi (hd ob) 0;have d1:∀ob,(wr.alloc ob).cell? ⟨w.heap.size,1,U⟩=AI (sh ps ns cs):=λob=>fi (hd ob) 1;have d2:∀ob,(wr.alloc ob).cell? ⟨w.heap.size,2,U⟩=AI (sh pm nm cm):=λob=>fi (hd ob) 2;have d3:∀ob,(wr.alloc ob).cell? ⟨w.heap.size,3,U⟩=AI (O J px):=λob=>fi (hd ob) 3;have d4:∀ob,(wr.alloc ob).cell? ⟨w.heap.size,4,U⟩=AI (O J py):=λob=>fi (hd ob) 4;have d5:∀ob,(wr.alloc ob).cell? ⟨w.heap.size,5,U⟩=AI (O J pz):=λob=>fi (hd ob) 5;have d6:∀ob,(wr.alloc ob).cell? ⟨w.heap.size,6,U⟩=AI (O J ph):=λob=>fi (hd ob) 6;have d7:∀ob,(wr.alloc ob).cell? ⟨w.heap.size,7,U⟩=AI (O J pq):=λob=>fi (hd ob) 7;have d8:∀ob,(wr.alloc ob).cell? ⟨w.heap.size,8,U⟩=AI (sh pw nw cw):=λob=>fi (hd ob) 8;have l0:∀ob,(wr.alloc ob).cell? ⟨w.heap.size+1+1,0,U⟩=AI (I name):=λob=>fi (hd2 ob) 0;have l1:∀ob,(wr.alloc ob).cell? ⟨w.heap.size+1+1,1,U⟩=AI (O J t):=λob=>fi (hd2 ob) 1;have l2:∀ob,(wr.alloc ob).cell? ⟨w.heap.size+1+1,2,U⟩=AI (O J 0):=λob=>fi (hd2 ob) 2;have l3:∀ob,(wr.alloc ob).cell? ⟨w.heap.size+1+1,3,U⟩=AI (O J 0):=λob=>fi (hd2 ob) 3;have l4:∀ob,(wr.alloc ob).cell? ⟨w.heap.size+1+1,4,U⟩=AI (I ⟨#[]⟩):=λob=>fi (hd2 ob) 4;have l5:∀ob,(wr.alloc ob).cell? ⟨w.heap.size+1+1,5,U⟩=AI (O J 0):=λob=>fi (hd2 ob) 5;have l6:∀ob,(wr.alloc ob).cell? ⟨w.heap.size+1+1,6,U⟩=AI (I ⟨#[]⟩):=λob=>fi (hd2 ob) 6;clear hd hd2;go_wp2_with fail;refine Calls.mono (NO.out _) ?_;rintro e w5 ⟨r,rfl,hrr,sK⟩;have hs5:wr.heap.size+1<=w5.heap.size:=by have:=sK.size;simpa using this
    have qB:Hid _:=(HB.out.alloc hsr _).trans (sK.mono (by simp<;>omega));have Nt:Hid (Rc.Own _ _ _ _):=(HO.out.below ((If _ _).alloc (By _) _)).below sK;clear sK d0 d1 d2 d3 d4 d5 d6 d7 d8 l0 l1 l2 l3 l4 l5 l6;by_cases hz:ek=0
    .have tu:Hid _:=o6.out hz
     have HRR:Hid _:=hrr hz;clear hrr o6 HER;subst hz;obtain⟨rn,rt1,rl,ra,rx,rp,rg⟩:=r;go_wp2_with (at_builtin;refine IY _ rfl _ _ 61 rfl X.heap.size 104 i0 _ 7 80 Qc qg oS so sf rfl (by omega) _ DL.length (Rc.fl DL) rfl ?hown ⟨w5.heap.size+1,0,U⟩ 1 1 [I rn,O J rt1,O J rl,O J ra,I rx,O J rp,I rg] rfl rfl ?hnews (Rc.pX ⟨rn,rt1,rl,ra,rx,rp,rg⟩) ?h63 ?hbytes ?hbase ?_)
     case hown=>exact Nt.out.below (((If _ _).alloc (By _) _).alloc (by simp) _)
     case hnews=>(intro j u hj;rw[I4];exact(oY (by simp)).trans (by simpa using hj))
     case h63=>(unfold Il;omega)
     case hbytes=>omega
     case hbase=>(simp;omega)
     intro v' w6 r1 r2 r3;have tq:Hid _:=((qB.out.alloc (by omega) _).alloc (by simp<;>omega) _).grown r2 (by simp<;>omega) (λj hj=>(Nt.out.lt j hj).1);have Bl:Hid (Rc.Own X.heap.size w6 v' (DL++[⟨rn,rt1,rl,ra,rx,rp,rg⟩])):=Rc.qC r1;clear r1 r2 r3;go_wp2_with fail;go_roundw
     case rel=>exact⟨k+1,by omega,by go_num,by rw[Kz.out,<- HRR.out];exact Bl.out,tq,tu⟩
     case measure=>simp[intOf];omega
    .have HE:Hid _:=HER.out hz
     have HR:Hid (A=⟨[],0,ek⟩):=by have h:=Pj.out (by rw[HE.out];exact hz);rw[HE.out] at h;exact h
     have hz':(ek !=0)=true:=by simpa using hz
     have HBE:Hid _:=oT.out.trans (qB.out.mono (by omega));obtain⟨rn,rt1,rl,ra,rx,rp,rg⟩:=r;go_wp2_with fail;go_ret3
     exact⟨sh U 0 0,by rw[HR.out];rfl,by rw[HR.out];exact Rc.nh _ _,HBE.out.alloc (by omega) _⟩
   .have HE:Hid _:=CQ λj hj=>HZ.out j (by have:=vj.out;omega)
    have HR:Hid _:=Ae.out HE.out;have HOE:Hid (Rc.Own w.heap.size wr u13 (NL.map (pG name here t))):=by
     have h:=HO.out;rw[IJ (by rw[vj.out];omega)] at h;exact h.mono (by omega)
    have HBE:Hid _:=oT.out.trans (HB.out.mono (by omega));go_wp2_with fail;go_ret3
    exact⟨u13,by rw[HR.out];rfl,by rw[HR.out];exact HOE.out,HBE.out⟩
def plK(p:Pl)(wh:List Wh.nZ)(k:Nat):Int:=pR (p::((oN wh).map oJ).take k)
theorem aeo(p:Pl)(wh:List Wh.nZ):plK p wh 0=nV p:=by
 unfold plK;simp only[List.take_zero];rcases Tf p with h|h
 .rw[h,rN]
  intro j hj
  have:j=0:=by simpa using hj
  subst this;simpa using h
 .rw[h,zr (k:=0) (by simp) (by simp[h])]
theorem Wy(p:Pl)(wh:List Wh.nZ){k:Nat}(h:wh.length<=k):plK p wh k=pR (p::(oN wh).map oJ):=by
 unfold plK;rw[IJ (by simpa[oN] using h)]
theorem B5(here:ByteArray)(ps pm pw:Option Addr)(ns cs nm cm nw cw:Nat)(px py pz ph pq:Int)(sv:List Sv.nj)(ms:List Mem)(wh:List Wh.nZ)(w:World)(hh:here.size<=Il)(hs:Sv.Sl w (sh ps ns cs) sv)(hm:Sl w (sh pm nm cm) ms)(hw:Wh.Sl w (sh pw nw cw) wh) :
 Calls AT 47 #[I here,sh ps ns cs,sh pm nm cm,Iu #[O J px,O J py,O J pz,O J ph,O J pq],sh pw nw cw] w λe w'=>e=Ia (O J (Ab here sv ms ⟨px,py,pz,ph,pq⟩ wh))/\Below w.heap.size w w':=by
 have HS:Hid (Sv.Sl _ _ _):=hs;have HM:Hid (Sl _ _ _):=hm;obtain⟨pa',ca',he,_,ha⟩:=hw;simp only[IM] at he;obtain⟨rfl,hN,rfl⟩:=he;have HA:Hid _:=ha;have HN:Hid _:=hN.symm;have HK:Hid (Ab here sv ms ⟨px,py,pz,ph,pq⟩ wh=if mT here=true then(if Sv.nu sv=0 then(if nu ms=0 then Km ⟨px,py,pz,ph,pq⟩ wh else nu ms) else Sv.nu sv) else 1):=rfl;have Ko:Hid (∀W v,Sv.Sl W v sv->Calls _ _ _ _ _):=λW v h=>Sv.rY sv v W h;have HC2:Hid (∀W v,Sl W v ms->Calls _ _ _ _ _):=λW v h=>xe ms v W h;have HC3:Hid (∀(p:Pl) W,Calls AT 16 #[Iu #[O J p.x,O J p.y,O J p.z,O J p.h,O J p.s]] W λe w'=>e=Ia (O J (nV p))/\Below W.heap.size W w'):=λp W=>(vA p W).mono (by rintro e w' ⟨rfl,rfl⟩;exact⟨rfl,(If _ _).alloc (By _) _⟩);have HP2:Hid (20<nw->Km ⟨px,py,pz,ph,pq⟩ wh=2):=λh=>Nz (by rw[HN.out];exact h);have HP1:Hid (¬ 20<nw->Km ⟨px,py,pz,ph,pq⟩ wh=plK ⟨px,py,pz,ph,pq⟩ wh nw):=λh=>by rw[Ev (by rw[HN.out];exact h),Wy _ _ (by rw[HN.out];exact By _)]
 have HP0:Hid (plK ⟨px,py,pz,ph,pq⟩ wh 0=nV ⟨px,py,pz,ph,pq⟩):=aeo _ _;have My:Hid (∀k,k<nw->plK ⟨px,py,pz,ph,pq⟩ wh k=0->plK ⟨px,py,pz,ph,pq⟩ wh (k+1)=nV (oJ (yh (wh.getD k Wh.dm)))):=λk hk h=>Td _ wh k (by rw[HN.out];exact hk) h;have HPE:Hid (∀k,plK ⟨px,py,pz,ph,pq⟩ wh k≠0->plK ⟨px,py,pz,ph,pq⟩ wh nw=plK ⟨px,py,pz,ph,pq⟩ wh k):=λk h=>by
  obtain⟨h1,h2⟩:=Ny ⟨px,py,pz,ph,pq⟩ wh k h;rw[Wy _ _ (by rw[HN.out];exact By _),h1];exact h2.symm
 clear hs hm ha hN;generalize Ab here sv ms ⟨px,py,pz,ph,pq⟩ wh=res at *;generalize Km ⟨px,py,pz,ph,pq⟩ wh=pe at *;generalize Sv.nu sv=ce at *;generalize nu ms=me at *;have nE:∀W,Calls AT 11 #[I here] W λe w'=>e=Ia (Ic (mT here))/\w'=W:=λW=>mV here W hh;rcases hl:mT here with _|_
 .have HR:Hid (res=1):=HK.out.trans (by rw[hl];rfl)
  rw[hl] at nE;go_enter func47,ntmps47;go_wp2_with fail;refine(nE _).mono ?_;rintro e w' ⟨rfl,rfl⟩;go_wp2_with fail;go_ret;exact⟨mN HR.out.symm,(If _ _).alloc (By _) _⟩
 .have vN:Hid (res=if ce=0 then(if me=0 then pe else me) else ce):=HK.out.trans (by rw[hl];rfl)
  rw[hl] at nE;clear HK;go_enter func47,ntmps47;go_wp2_with fail;refine(nE _).mono ?_;rintro e w' ⟨rfl,rfl⟩;have rG:Below w.heap.size w (w.alloc (Ib #[O J px,O J py,O J pz,O J ph,O J pq] 27)):=(If _ _).alloc (By _) _;go_wp2_with fail;refine(Ko.out _ _ (HS.out.below rG)).mono ?_;rintro e w1 ⟨rfl,mO⟩;have mY:Hid _:=rG.trans (mO.mono (by simp));have vF:Hid _:=(mO.block _ (by simp)).trans (Ii w _);have Th:=(Ig.1 vF.out).1;clear rG mO;by_cases h1:ce=0
  .have Ac:Hid _:=vN.out.trans (if_pos h1)
   clear vN;subst h1;go_wp2_with fail;refine(HC2.out _ _ (HM.out.below mY.out)).mono ?_;rintro e w2 ⟨rfl,mZ⟩;have nR:Hid _:=mY.out.trans (mZ.mono (by omega));have hg:=(mZ.block _ (by omega)).trans vF.out;have d0:=fi hg 0;have d1:=fi hg 1;have d2:=fi hg 2;have d3:=fi hg 3;have d4:=fi hg 4;have RV:=(Ig.1 hg).1;clear mZ hg vF;by_cases h2:me=0
   .have Co:Hid _:=Ac.out.trans (if_pos h2)
    subst h2;clear Ac;by_cases h3:20<nw
    .have HR:Hid _:=Co.out.trans (HP2.out h3)
     go_wp2_with fail;go_loopw [11,12] (λe i wr=>e=O J 2/\i=O J 0/\wr=w2) (λ_ _ _=>0)
     case atStart=>exact⟨rfl,rfl,rfl⟩
     case round=>
      obtain⟨rfl,rfl,rfl⟩:=hrel;have h4:((0:Int)<(nw:Int)):=by omega
      go_wp2_with fail;go_ret;exact⟨mN HR.out.symm,nR.out⟩
    .have HR:Hid _:=Co.out.trans (HP1.out h3)
     go_wp2_with fail;refine(HC3.out ⟨px,py,pz,ph,pq⟩ _).mono ?_;rintro e w3 ⟨rfl,nC⟩;have oT:Hid _:=nR.out.trans (nC.mono (by omega));rw[<- HP0.out];clear nC d0 d1 d2 d3 d4 Co HP1 HP2 HP0;generalize hpk:plK ⟨px,py,pz,ph,pq⟩ wh=pk at *;clear hpk;go_wp2_with fail;go_loopw [11,12] (λe i wr=>∃k:Nat,k<=nw/\i=O J k/\e=O J (pk k)/\Hid (Below w.heap.size w wr)) (λ_ i _=>nw-(intOf i).toNat)
     case atStart=>exact⟨0,Iw _,rfl,rfl,oT⟩
     case round=>
      obtain⟨k,hk,rfl,rfl,HB⟩:=hrel;have od:=HB.out.size;by_cases mS:k<nw
      .by_cases hz:pk k=0
       .have hz':(pk k==0)=true:=by simpa using hz
        obtain⟨b,off,tr,o8,hr⟩:∃b off,pw=AI ⟨b,off,U⟩/\b<w.heap.size/\Wh.Row w b off wh:=by
         rcases HA.out with h|h
         .have:=HN.out;rw[h] at this;simp at this;omega
         .exact h
        subst tr;obtain⟨c0,c1,c2,c3,c4,c5⟩:=hr.later HB.out o8 k (by rw[HN.out];exact mS);clear hr;have HNX:Hid _:=My.out k mS hz;generalize wh.getD k Wh.dm=m at *;obtain⟨nd,x,y,z,h,s⟩:=m;simp only at c0 c1 c2 c3 c4 c5;have HCW:Hid (∀W,Calls AT 16 #[Iu #[O J x,O J y,O J z,O J h,O J s]] W λe w'=>e=Ia (O J (pk (k+1)))/\Below W.heap.size W w'):=λW=>by rw[HNX.out];exact HC3.out ⟨x,y,z,h,s⟩ W
        clear hz HNX;generalize pk k=pkk at *;generalize apU:pk (k+1)=pk2 at *;have avO:Hid _:=apU;clear apU;go_wp2_with fail;refine(HCW.out _).mono ?_;rintro e w4 ⟨rfl,qA⟩;have qP:Hid _:=HB.out.trans (qA.mono od);clear qA;go_wp2_with fail;go_roundw
        case rel=>exact⟨k+1,by omega,by go_num,by rw[avO.out],qP⟩
        case measure=>simp[intOf];omega
       .have hz':(pk k==0)=false:=by simpa using hz
        have te:Hid _:=HR.out.trans (HPE.out k hz);clear hz;generalize pk k=pkk at *;go_wp2_with fail;go_ret;exact⟨mN te.out.symm,HB.out⟩
      .have tp:k=nw:=by omega
       have te:Hid (res=pk k):=by rw[tp];exact HR.out
       clear tp;generalize pk k=pkk at *;go_wp2_with fail;go_ret;exact⟨mN te.out.symm,HB.out⟩
   .have HR:Hid _:=Ac.out.trans (if_neg h2)
    have DR:(me==0)=false:=by simpa using h2
    go_wp2_with fail;go_loopw [11,12] (λe i wr=>e=O J me/\i=O J 0/\wr=w2) (λ_ _ _=>0)
    case atStart=>exact⟨rfl,rfl,rfl⟩
    case round=>
     obtain⟨rfl,rfl,rfl⟩:=hrel;by_cases h4:(0:Int)<(nw:Int);all_goals
      go_wp2_with fail;go_ret;exact⟨mN HR.out.symm,nR.out⟩
  .have HR:Hid _:=vN.out.trans (if_neg h1)
   have RI:(ce==0)=false:=by simpa using h1
   go_wp2_with fail;go_loopw [11,12] (λe i wr=>e=O J ce/\i=O J 0/\wr=w1) (λ_ _ _=>0)
   case atStart=>exact⟨rfl,rfl,rfl⟩
   case round=>
    obtain⟨rfl,rfl,rfl⟩:=hrel;by_cases h4:(0:Int)<(nw:Int);all_goals
     go_wp2_with fail;go_ret;exact⟨mN HR.out.symm,mY.out⟩
theorem yS:∀{ms:List Mem},nt ms=0->∀m∈ms,m.e=0
 |[],_,m,hm=>by simp at hm
 |x::r,h,m,hm=>by
  rw[nt] at h;by_cases h2:x.e=0
  .rw[if_pos h2] at h
   rcases List.mem_cons.1 hm with rfl|hm
   .exact h2
   .exact yS h m hm
  .rw[if_neg h2] at h;exact absurd h h2
theorem FT{ms:List Mem}{k:Nat}(hc:nu ms=0)(hk:k<ms.length):1<=(ms.getD k dm).state/\(ms.getD k dm).state<=4:=by
 have h:=(mU hc).2.2;have h2:(ms.getD k dm).e=0:=yS h _ (by simp[Ip,Ih hk]);unfold Mem.e uA at h2;by_cases h3:within (ms.getD k dm).state 1 4=true
 .unfold within at h3;rw[Bool.and_eq_true,decide_eq_true_eq,decide_eq_true_eq] at h3;exact h3
 .rw[if_neg h3] at h2;split at h2<;>omega
theorem alR{ms:List Mem}{t:ByteArray}{k:Nat}(hc:nu ms=0)(hk:k<ms.length)(h:oX ms t=AI (ms.getD k dm)):wL ms t=decide (2<(ms.getD k dm).state):=by
 have hm:=uc h;unfold wL;rw[hm];have h1:=FT hc hk;have h2:(ms.getD k dm).state=1\/(ms.getD k dm).state=2\/(ms.getD k dm).state=3\/(ms.getD k dm).state=4:=by omega
 rcases h2 with h2|h2|h2|h2<;>rw[h2]<;>rfl
theorem aep{ms:List Mem}{t:ByteArray}(h:oX ms t=U):wL ms t=false:=by
 unfold wL;rw[zG h];rfl
theorem Pm{l:List ByteArray}(h:l≠[]):l.getLast?=AI (l.getD (l.length-1) Ie):=by
 have hl:=Uh.2 h;rw[List.getLast?_eq_getElem?,Ih (by omega)];simp[Ip,Ih (show l.length-1<l.length by omega)]
theorem aeq{l:List ByteArray}{n:ByteArray}(h:l=[]\/l.getD (l.length-1) Ie≠n):Aa l n=l++[n]:=by
 unfold Aa;rw[if_neg];intro e;rcases h with h|h
 .rw[h] at e;simp at e
 .by_cases hl:l=[]
  .rw[hl] at e;simp at e
  .rw[Pm hl] at e
   exact h (by simpa using e)
theorem aer{l:List ByteArray}{n:ByteArray}(hl:l≠[])(h:l.getD (l.length-1) Ie=n):Aa l n=l:=by
 unfold Aa;rw[if_pos];rw[Pm hl,h]
theorem Wz{P:Prop}(h:P:=by
 have HQ3:Hid _:=NF.out HT.out;clear HQ1 NF;rcases avQ with⟨pv,cv,rfl,rfl⟩|⟨g,m,l1,c,la,rfl,HL1,HLM,HLA,cL,Ak,nK⟩|⟨g,m,l1,c,la,rfl,HL1,HLM,HLA,cL,Ak,nK⟩
 .go_wp2_with fail
  go_quiet (fail)
  go_wp2_with (at_builtin;refine IY _ rfl _ _ 107 rfl B 9 s0 _ 1 16 IS Ct sz0 szs szb rfl (by omega) _ 0 [] rfl ?hown _ 1 1 [I nd] rfl rfl ?hnews (qj [_]) ?h63 ?hbytes ?hbase ?_)
  case hown=>exact OY (show(w1.drewN _).ownsRow _ _ _ _ _ _ from HO.out) _
  case hnews=>exact cell_one_new _ _ _
  case h63=>(unfold Il;omega)
  case hbytes=>omega
  case hbase=>(simp;omega)
  intro v' w2 r1 r2 r3;have nR:Hid _:=((wG (If _ _) _).alloc (by simp;omega) _).grown r2 (by simp;omega) (λj hj=>(I3 HO.out j hj).1);have sI:Hid (nD _ _ _ _):=rO (l:=[]) r1;clear r1 r2 r3;go_wp2_with fail;exact HQ3.out _ _ _ _ _ _ _ _ _ _ _ _ _ _ _ _ _ _ _ _ _ _ _ _ _ _ _ _ _ _ _ _ _ _ _ _ _ _ _ _ _ _ _ v' w2 sI.out nR.out
 .have h3:=nK.1
  have h4:=nK.2;have avR:l1<=40:=by have:=HLM.out;omega
  have hx0:(0:Int)<=(l1:Int)-1:=by have:=HL1.out;omega
  have LQ:(l1:Int)-1<(l1:Int):=by omega
  have hx2:((l1:Int)-1).toNat=m:=by have:=HL1.out;omega
  have tQ:Hid (w1.ownsRow B 9 1 (sh (AI ⟨g,0,U⟩) l1 c) l1 (NL.map I)):=by have h:=HO.out;unfold nD at h;rw[HLM.out] at h;exact h
  have pC:((l1:Int)==0)=false:=by have:=HL1.out;simp;omega
  go_wp2_with fail;go_quiet (fail)
  go_wp2_with (at_builtin;refine IY _ rfl _ _ 107 rfl B 9 s0 _ 1 16 IS Ct sz0 szs szb rfl (by omega) _ l1 (NL.map I) rfl ?hown _ 1 1 [I nd] rfl rfl ?hnews (qj [_]) ?h63 ?hbytes ?hbase ?_)
  case hown=>exact OY (show(w1.drewN _).ownsRow _ _ _ _ _ _ from tQ.out) _
  case hnews=>exact cell_one_new _ _ _
  case h63=>(unfold Il;omega)
  case hbytes=>omega
  case hbase=>(simp;omega)
  intro v' w2 r1 r2 r3;have nR:Hid _:=((wG (If _ _) _).alloc (by simp;omega) _).grown r2 (by simp;omega) (λj hj=>(I3 tQ.out j hj).1);have sI:Hid (nD B w2 v' (Aa NL nd)):=by rw[HLA.out];exact rO (by rw[HLM.out];exact r1)
  clear r1 r2 r3;go_wp2_with fail;exact HQ3.out _ _ _ _ _ _ _ _ _ _ _ _ _ _ _ _ _ _ _ _ _ _ _ _ _ _ _ _ _ _ _ _ _ _ _ _ _ _ _ _ _ _ _ v' w2 sI.out nR.out
 .have avR:l1<=40:=by have:=HLM.out;omega
  have hx0:(0:Int)<=(l1:Int)-1:=by have:=HL1.out;omega
  have LQ:(l1:Int)-1<(l1:Int):=by omega
  have hx2:((l1:Int)-1).toNat=m:=by have:=HL1.out;omega
  have pC:((l1:Int)==0)=false:=by have:=HL1.out;simp;omega
  have sI:Hid (nD B w1 (sh (AI ⟨g,0,U⟩) l1 c) (Aa NL nd)):=by rw[HLA.out];exact HO
  go_wp2_with fail;go_quiet (fail)
  go_wp2_with fail;exact HQ3.out _ _ _ _ _ _ _ _ _ _ _ _ _ _ _ _ _ _ _ _ _ _ _ _ _ _ _ _ _ _ _ _ _ _ _ _ _ _ _ _ _ _ _ _ _ (show nD B (w1.drewN _) _ _ from sI.out) (wG (If _ _) _)):P:=h
theorem rr1{u0 u1 u2 u3 u5 u6 u7 u8 u9 ac jG af ai aj ap au ay az aA aE aF aI aJ aK aL aM aN aO aP aQ aR aT aU aV aW aX aY aZ ba bc be bf bi bj bp bq bu bw bz bA bB bC bD bE bF bJ bK bL bM bN bO bP bQ bT bU bV bW bX bY bZ cd cj cx cy cz cA cB cC cD cE cF cG cH cI cJ cK cM cO cP cQ cR cS cT cU cV cW cX cY cZ da dd de df dg dh di dj dl dn dt du dv dw dx dA dB dC dD dE dF dG dH dI dJ dK dL dM dO dP dQ dR dS dU dW dX dY dZ ea eb ed ee ei ej el eo ep eu ew ex ey jH ez eA eC eD eE eF eG eH eI eJ eK eL eM eN eO eP eQ eR eS eT eU eV eW eX eY eZ e9 fb fc fe ff fh fj fm fp fq fs fu fw fx fy fA fB fC fD fE fF fG fH fI fJ fK fL fM fN fO fP fQ fS fT fU fV fW fX fY fZ ga gc gd gh gi gj gk gl gn gr:Value}(B:Nat)(ms:List Mem)(found:List Sv.nj)(pm pf:Option Addr)(nm cm n cf k:Nat)(vn:Value)(NL:List ByteArray)(w:World)(hc:nu ms=0)(hk:k<n)(hNL:NL.length<=40)(Cj:B<=w.heap.size)(HM:Hid (Sl w (sh pm nm cm) ms))(HF:Hid (Sv.Sl w (sh pf n cf) found))(HO:Hid (nD B w vn NL))(Q:Exit->Act->World->Prop)(hN:∀(lJ ki kj ko kt ku kw kx ky kz kA kB kC kD kE kF kG kH kI kJ kK kL kM kN kO kP kQ kR kT kU kV kW kX kY kZ ld lg lh lj ln lw lx ly vn':Value) (wx:World),Hid (nD B wx vn' (if wL ms (found.getD k Sv.dm).node=true then NL else Aa NL (found.getD k Sv.dm).node))->Hid (Below B w wx)->Q .normal ⟨#[u0,u1,u2,u3,sh pm nm cm,u5,u6,u7,u8,u9,ac,jG,af,ai,aj,ap,au,ay,az,aA,sh pf n cf,vn',O J k,lJ,aF,aI,aJ,aK,aL,aM,aN,aO,aP,aQ,aR,aT,aU,aV,aW,aX,aY,aZ,ba,bc,be,bf,bi,bj,bp,bq,bu,bw,bz,bA,bB,bC,bD,bE,bF,bJ,bK,bL,bM,bN,bO,bP,bQ,bT,bU,bV,bW,bX,bY,bZ,cd,cj,cx,cy,cz,cA,cB,cC,cD,cE,cF,cG,cH,cI,cJ,cK,cM,cO,cP,cQ,cR,cS,cT,cU,cV,cW,cX,cY,cZ,da,ki,kj,ko,kt,ku,kw,kx,ky,kz,kA,kB,kC,kD,kE,kF,kG,kH,kI,kJ,kK,kL,kM,kN,kO,kP,kQ,kR,kT,kU,kV,kW,kX,kY,kZ,ld,lg,lh,lj,ln,lw,lx,ly,ej,el,eo,ep,eu,ew,ex,ey,jH,ez,eA,eC,eD,eE,eF,eG,eH,eI,eJ,eK,eL,eM,eN,eO,eP,eQ,eR,eS,eT,eU,eV,eW,eX,eY,eZ,e9,fb,fc,fe,ff,fh,fj,fm,fp,fq,fs,fu,fw,fx,fy,fA,fB,fC,fD,fE,fF,fG,fH,fI,fJ,fK,fL,fM,fN,fO,fP,fQ,fS,fT,fU,fV,fW,fX,fY,fZ,ga,gc,gd,gh,gi,gj,gk,gl,gn,gr],[]⟩ wx) :
 Code.wp AT ((Tryz.f48.body.bind (xo 1)).getD .skip) Q ⟨#[u0,u1,u2,u3,sh pm nm cm,u5,u6,u7,u8,u9,ac,jG,af,ai,aj,ap,au,ay,az,aA,sh pf n cf,vn,O J k,aE,aF,aI,aJ,aK,aL,aM,aN,aO,aP,aQ,aR,aT,aU,aV,aW,aX,aY,aZ,ba,bc,be,bf,bi,bj,bp,bq,bu,bw,bz,bA,bB,bC,bD,bE,bF,bJ,bK,bL,bM,bN,bO,bP,bQ,bT,bU,bV,bW,bX,bY,bZ,cd,cj,cx,cy,cz,cA,cB,cC,cD,cE,cF,cG,cH,cI,cJ,cK,cM,cO,cP,cQ,cR,cS,cT,cU,cV,cW,cX,cY,cZ,da,dd,de,df,dg,dh,di,dj,dl,dn,dt,du,dv,dw,dx,dA,dB,dC,dD,dE,dF,dG,dH,dI,dJ,dK,dL,dM,dO,dP,dQ,dR,dS,dU,dW,dX,dY,dZ,ea,eb,ed,ee,ei,ej,el,eo,ep,eu,ew,ex,ey,jH,ez,eA,eC,eD,eE,eF,eG,eH,eI,eJ,eK,eL,eM,eN,eO,eP,eQ,eR,eS,eT,eU,eV,eW,eX,eY,eZ,e9,fb,fc,fe,ff,fh,fj,fm,fp,fq,fs,fu,fw,fx,fy,fA,fB,fC,fD,fE,fF,fG,fH,fI,fJ,fK,fL,fM,fN,fO,fP,fQ,fS,fT,fU,fV,fW,fX,fY,fZ,ga,gc,gd,gh,gi,gj,gk,gl,gn,gr],[]⟩ w:=by
 conv=>arg 2;whnf
 have CV:Hid _:=hN;clear hN;obtain⟨s0,Ct,sz0,szs,szb⟩:=Jc Tryz.AU;have Kz:Hid (Sl _ _ _):=HM;obtain⟨_,_,hme,-,hma⟩:=HM.out;simp only[IM] at hme;obtain⟨rfl,zK,rfl⟩:=hme;have KA:Hid _:=zK.symm;have avS:ms.length<=1000:=by have:=(mU hc).1;omega
 have HMA:Hid _:=hma;obtain⟨_,_,hfe,ux,hfa⟩:=HF.out;simp only[IM] at hfe;obtain⟨rfl,uU,rfl⟩:=hfe;obtain⟨b,off,tr,o8,hr⟩:∃b off,pf=AI ⟨b,off,U⟩/\b<w.heap.size/\Sv.Row w b off found:=by
  rcases hfa with h|h
  .rw[h] at uU;simp at uU;omega
  .exact h
 subst tr;obtain⟨c0,-,-,-,-,-,-,-,-⟩:=hr k (by omega);have vu:Hid (∀W,Sl W (sh pm nm cm) ms->Calls AT 18 #[sh pm nm cm,I (found.getD k Sv.dm).node] W λe w'=>∃r:Int,e=Ia (O J r)/\Hid (AtF ms (found.getD k Sv.dm).node r)/\w'=W):=λW h=>CS ms _ _ W h avS;have HOF:Hid (∀j,j<ms.length->oX ms (found.getD k Sv.dm).node=AI (ms.getD j dm)->wL ms (found.getD k Sv.dm).node=decide (2<(ms.getD j dm).state)):=λj hj h=>alR hc hj h;clear hma hfa hr ux zK uU HM HF hc;generalize(found.getD k Sv.dm).node=nd at *;have Ni:(0:Int)<=(k:Int):=OM _;have hk1:(k:Int)<(n:Int):=by omega
 go_wp2_with fail;refine Calls.mono (vu.out w Kz.out) ?_;rintro e w1 ⟨r,rfl,qi,RF⟩;subst RF;have HQ1:Hid (wL ms nd=true->∀(lJ ki kj ko kt ku kw kx ky kz kA kB kC kD kE kF kG kH kI kJ kK kL kM kN kO kP kQ kR kT kU kV kW kX kY kZ ld lg lh lj ln lw lx ly:Value),Q .normal ⟨#[u0,u1,u2,u3,sh pm nm cm,u5,u6,u7,u8,u9,ac,jG,af,ai,aj,ap,au,ay,az,aA,sh (AI ⟨b,off,U⟩) n cf,vn,O J k,lJ,aF,aI,aJ,aK,aL,aM,aN,aO,aP,aQ,aR,aT,aU,aV,aW,aX,aY,aZ,ba,bc,be,bf,bi,bj,bp,bq,bu,bw,bz,bA,bB,bC,bD,bE,bF,bJ,bK,bL,bM,bN,bO,bP,bQ,bT,bU,bV,bW,bX,bY,bZ,cd,cj,cx,cy,cz,cA,cB,cC,cD,cE,cF,cG,cH,cI,cJ,cK,cM,cO,cP,cQ,cR,cS,cT,cU,cV,cW,cX,cY,cZ,da,ki,kj,ko,kt,ku,kw,kx,ky,kz,kA,kB,kC,kD,kE,kF,kG,kH,kI,kJ,kK,kL,kM,kN,kO,kP,kQ,kR,kT,kU,kV,kW,kX,kY,kZ,ld,lg,lh,lj,ln,lw,lx,ly,ej,el,eo,ep,eu,ew,ex,ey,jH,ez,eA,eC,eD,eE,eF,eG,eH,eI,eJ,eK,eL,eM,eN,eO,eP,eQ,eR,eS,eT,eU,eV,eW,eX,eY,eZ,e9,fb,fc,fe,ff,fh,fj,fm,fp,fq,fs,fu,fw,fx,fy,fA,fB,fC,fD,fE,fF,fG,fH,fI,fJ,fK,fL,fM,fN,fO,fP,fQ,fS,fT,fU,fV,fW,fX,fY,fZ,ga,gc,gd,gh,gi,gj,gk,gl,gn,gr],[]⟩ w1):=λh _ _ _ _ _ _ _ _ _ _ _ _ _ _ _ _ _ _ _ _ _ _ _ _ _ _ _ _ _ _ _ _ _ _ _ _ _ _ _ _ _ _ _=>CV.out _ _ _ _ _ _ _ _ _ _ _ _ _ _ _ _ _ _ _ _ _ _ _ _ _ _ _ _ _ _ _ _ _ _ _ _ _ _ _ _ _ _ _ vn w1 (by rw[if_pos h];exact HO) (If _ _);have NF:Hid (wL ms nd=false->∀(lJ ki kj ko kt ku kw kx ky kz kA kB kC kD kE kF kG kH kI kJ kK kL kM kN kO kP kQ kR kT kU kV kW kX kY kZ ld lg lh lj ln lw lx ly vn':Value) (wx:World),nD B wx vn' (Aa NL nd)->Below B w1 wx->Q .normal ⟨#[u0,u1,u2,u3,sh pm nm cm,u5,u6,u7,u8,u9,ac,jG,af,ai,aj,ap,au,ay,az,aA,sh (AI ⟨b,off,U⟩) n cf,vn',O J k,lJ,aF,aI,aJ,aK,aL,aM,aN,aO,aP,aQ,aR,aT,aU,aV,aW,aX,aY,aZ,ba,bc,be,bf,bi,bj,bp,bq,bu,bw,bz,bA,bB,bC,bD,bE,bF,bJ,bK,bL,bM,bN,bO,bP,bQ,bT,bU,bV,bW,bX,bY,bZ,cd,cj,cx,cy,cz,cA,cB,cC,cD,cE,cF,cG,cH,cI,cJ,cK,cM,cO,cP,cQ,cR,cS,cT,cU,cV,cW,cX,cY,cZ,da,ki,kj,ko,kt,ku,kw,kx,ky,kz,kA,kB,kC,kD,kE,kF,kG,kH,kI,kJ,kK,kL,kM,kN,kO,kP,kQ,kR,kT,kU,kV,kW,kX,kY,kZ,ld,lg,lh,lj,ln,lw,lx,ly,ej,el,eo,ep,eu,ew,ex,ey,jH,ez,eA,eC,eD,eE,eF,eG,eH,eI,eJ,eK,eL,eM,eN,eO,eP,eQ,eR,eS,eT,eU,eV,eW,eX,eY,eZ,e9,fb,fc,fe,ff,fh,fj,fm,fp,fq,fs,fu,fw,fx,fy,fA,fB,fC,fD,fE,fF,fG,fH,fI,fJ,fK,fL,fM,fN,fO,fP,fQ,fS,fT,fU,fV,fW,fX,fY,fZ,ga,gc,gd,gh,gi,gj,gk,gl,gn,gr],[]⟩ wx):=λh _ _ _ _ _ _ _ _ _ _ _ _ _ _ _ _ _ _ _ _ _ _ _ _ _ _ _ _ _ _ _ _ _ _ _ _ _ _ _ _ _ _ _ vn' wx h1 h2=>CV.out _ _ _ _ _ _ _ _ _ _ _ _ _ _ _ _ _ _ _ _ _ _ _ _ _ _ _ _ _ _ _ _ _ _ _ _ _ _ _ _ _ _ _ vn' wx (by rw[if_neg (by rw[h];simp)];exact h1) h2;clear CV;have avQ:(∃pv cv,vn=sh pv 0 cv/\NL=[])\/(∃g m l1 c la,vn=sh (AI ⟨g,0,U⟩) l1 c/\Hid (l1=m+1)/\Hid (NL.length=l1)/\Hid (Aa NL nd=NL++[nd])/\w1.cell? ⟨g,m,U⟩=AI (I la)/\g<w1.heap.size/\((la.toList==nd.toList)=false/\¬ la.toList=nd.toList))\/(∃g m l1 c la,vn=sh (AI ⟨g,0,U⟩) l1 c/\Hid (l1=m+1)/\Hid (NL.length=l1)/\Hid (Aa NL nd=NL)/\w1.cell? ⟨g,m,U⟩=AI (I la)/\g<w1.heap.size/\(la.toList==nd.toList)=true):=by
  rcases HO.out.form with⟨hv,hl⟩|⟨g,c,hv,hlc,qa,Ak,Su⟩
  .exact .inl ⟨U,0,hv,hl⟩
  .by_cases hl:NL=[]
   .exact .inl ⟨_,c,by rw[hv,hl];rfl,hl⟩
   .have BA:=Uh.2 hl
    obtain⟨m,hm⟩:∃m,NL.length=m+1:=⟨NL.length-1,by omega⟩;have Aq:=Su m (by omega);by_cases e:NL.getD m Ie=nd
    .exact .inr (.inr ⟨g,m,NL.length,c,_,hv,hm,rfl,aer hl (by rw[hm];exact e),Aq,Ak,by rw[e];simp⟩)
    .exact .inr (.inl ⟨g,m,NL.length,c,_,hv,hm,rfl,aeq (.inr (by rw[hm];exact e)),Aq,Ak,o0 e⟩)
 rcases qi.out with⟨j,hj,rfl,hfj⟩|⟨rfl,hfj⟩
 .have HOJ:Hid _:=HOF.out j hj hfj
  obtain⟨bm,om,SR,oR,Bk⟩:∃b off,pm=AI ⟨b,off,U⟩/\b<w1.heap.size/\Row w1 b off ms:=by
   rcases HMA.out with h|h
   .rw[h] at hj;simp at hj
   .exact h
  subst SR;obtain⟨-,m1,-,-,-⟩:=Bk j hj;have Xg:j<nm:=by rw[<- KA.out];exact hj
  have hj0:(0:Int)<=(j:Int):=OM _;have hj1:(j:Int)<(nm:Int):=by omega
  clear Bk hfj qi HOF HMA hj;generalize(ms.getD j dm).state=st at *;by_cases GB:2<st
  .have HT:Hid _:=HOJ.out.trans (decide_eq_true GB)
   go_wp2_with fail;exact HQ1.out HT.out _ _ _ _ _ _ _ _ _ _ _ _ _ _ _ _ _ _ _ _ _ _ _ _ _ _ _ _ _ _ _ _ _ _ _ _ _ _ _ _ _ _ _
  .have HT:Hid _:=HOJ.out.trans (decide_eq_false GB)
   exact Wz
 .have HT:Hid _:=aep hfj
  clear hfj qi HOF HMA;exact Wz
theorem TF(here:ByteArray)(ps pm pw:Option Addr)(ns cs nm cm nw cw:Nat)(px py pz ph pq:Int)(q:Qu)(name:ByteArray)(t:Int)(ms:List Mem)(w:World)(hn:nm<=1000)(hm:Sl w (sh pm nm cm) ms)(Ph:name=tN q) :
 Calls AT 228 #[Iu (tH here (sh ps ns cs) (sh pm nm cm) px py pz ph pq (sh pw nw cw)),I q.node,Iu #[I name,O J t,O J 0,O J 0,I ⟨#[]⟩,O J 0,I ⟨#[]⟩]] w λe w'=>∃v,e=Ia (Ir #[v,O J (uX q t ms).code])/\Rc.Own w.heap.size w' v (uX q t ms).rs/\Below w.heap.size w w':=by
 have HME:Hid (∀W,Sl W (sh pm nm cm) ms->Calls _ _ _ _ _):=λW h=>Dx here ps pm pw ns cs nm cm nw cw px py pz ph pq ms q.node W h hn;have Mx:Hid (¬ ((qO ms q.node).state=1\/(qO ms q.node).state=2)->uX q t ms=⟨[],3,0⟩):=λh=>by unfold uX;rw[if_neg h]
 have AB:Hid (((qO ms q.node).state=1\/(qO ms q.node).state=2)->t≠1->uX q t ms=⟨[],0,0⟩):=λh h2=>by unfold uX;rw[if_pos h,if_neg h2]
 have DG:Hid (((qO ms q.node).state=1\/(qO ms q.node).state=2)->t=1->uX q t ms=⟨[⟨name,1,0,(qO ms q.node).addr,⟨#[]⟩,0,⟨#[]⟩⟩],0,0⟩):=λh h2=>by unfold uX;rw[if_pos h,if_pos h2,Ph]
 have HM:Hid (Sl _ _ _):=hm;clear hm Ph;generalize uX q t ms=A at *;generalize qO ms q.node=m at *;generalize q.node=nd at *;obtain⟨mn,st,lf,ad,sb⟩:=m;simp only at *;go_enter func228,ntmps228;go_wp2_with fail;obtain⟨W,hW⟩:∃W,W=(w.alloc (Ib (tH here (sh ps ns cs) (sh pm nm cm) px py pz ph pq (sh pw nw cw)) 87)).alloc (Ib #[I name,O J t,O J 0,O J 0,I ⟨#[]⟩,O J 0,I ⟨#[]⟩] 104):=⟨_,rfl⟩;rw[<- hW];have rj:Below w.heap.size w W:=by rw[hW];exact((If _ _).alloc (By _) _).alloc (by simp) _
 have Ch:W.heap[w.heap.size+1]?=AI (Ib #[I name,O J t,O J 0,O J 0,I ⟨#[]⟩,O J 0,I ⟨#[]⟩] 104 (0,0)):=by
  rw[hW];have h:=Ii (w.alloc (Ib (tH here (sh ps ns cs) (sh pm nm cm) px py pz ph pq (sh pw nw cw)) 87)) (Ib #[I name,O J t,O J 0,O J 0,I ⟨#[]⟩,O J 0,I ⟨#[]⟩] 104);simpa using h
 have CB:w.heap.size+2<=W.heap.size:=by rw[hW];simp
 clear hW;refine(HME.out W (HM.out.below rj)).mono ?_;rintro e w1 ⟨rfl,mO⟩;have sj:=mO.size;have mY:Hid _:=rj.trans (mO.mono (by omega));have ou:=(mO.block _ (by omega)).trans Ch;have hd:∀ob,(w1.alloc ob).heap[w.heap.size+1]?=AI (Ib #[I name,O J t,O J 0,O J 0,I ⟨#[]⟩,O J 0,I ⟨#[]⟩] 104 (0,0)):=λob=>by rw[Iv _ _ _ (by omega)];exact ou
 have l0:∀ob,(w1.alloc ob).cell? ⟨w.heap.size+1,0,U⟩=AI (I name):=λob=>fi (hd ob) 0;have l1:∀ob,(w1.alloc ob).cell? ⟨w.heap.size+1,1,U⟩=AI (O J t):=λob=>fi (hd ob) 1;have l2:∀ob,(w1.alloc ob).cell? ⟨w.heap.size+1,2,U⟩=AI (O J 0):=λob=>fi (hd ob) 2;have l3:∀ob,(w1.alloc ob).cell? ⟨w.heap.size+1,3,U⟩=AI (O J 0):=λob=>fi (hd ob) 3;have l4:∀ob,(w1.alloc ob).cell? ⟨w.heap.size+1,4,U⟩=AI (I ⟨#[]⟩):=λob=>fi (hd ob) 4;have l5:∀ob,(w1.alloc ob).cell? ⟨w.heap.size+1,5,U⟩=AI (O J 0):=λob=>fi (hd ob) 5;have l6:∀ob,(w1.alloc ob).cell? ⟨w.heap.size+1,6,U⟩=AI (I ⟨#[]⟩):=λob=>fi (hd ob) 6;have z3:∀ob,(w1.alloc ob).frozen? ⟨w.heap.size+1,3,U⟩=false:=λob=>by simp[Ij,hd ob]
 have xi:Hid (∀ob,Below w.heap.size w (w1.alloc ob)):=λob=>mY.out.alloc (by omega) ob;clear rj Ch mO ou hd;by_cases hs:st=1\/st=2
 .have Ae:Hid _:=AB.out hs
  have Pj:Hid _:=DG.out hs;clear Mx AB DG;by_cases ht:t=1
  .have HR:Hid _:=Pj.out ht
   clear Ae Pj;subst ht;rcases hs with hs|hs;all_goals
    subst hs;go_wp2_with fail;go_ret2;refine⟨_,by rw[HR.out];rfl,?_,?_⟩
    .rw[HR.out]
     refine Rc.EO (G:=1) (cur:=#[I name,O J 1,O J 0,O J ad,I ⟨#[]⟩,O J 0,I ⟨#[]⟩]) ?_ ?_ rfl (By _) (by decide) rfl;rotate_left
     .first|exact Ii _ _|(have h:=Ii ((w1.alloc (Ib #[I mn,O J 1,O J lf,O J ad,Ic sb] 55)).setCell ⟨w.heap.size+1,3,U⟩ (O J ad)) (Ib #[I name,O J 1,O J 0,O J ad,I ⟨#[]⟩,O J 0,I ⟨#[]⟩] 104);simpa using h)  | (have h:=Ii ((w1.alloc (Ib #[I mn,O J 2,O J lf,O J ad,Ic sb] 55)).setCell ⟨w.heap.size+1,3,U⟩ (O J ad)) (Ib #[I name,O J 1,O J 0,O J ad,I ⟨#[]⟩,O J 0,I ⟨#[]⟩] 104);simpa using h)
     ·(try simp)<;>omega
    .exact((xi.out _).setCell (p:=⟨w.heap.size+1,3,U⟩) (by simp) _).alloc (by simp<;>omega) _
  .have HR:Hid _:=Ae.out ht
   have ht':(t !=1)=true:=by simpa using ht
   clear Ae Pj;rcases hs with hs|hs;all_goals
    subst hs;go_wp2_with fail;go_ret2;exact⟨sh U 0 0,by rw[HR.out];rfl,by rw[HR.out];exact Rc.nh _ _,xi.out _⟩
 .have HR:Hid _:=Mx.out hs
  have g1:(st !=1)=true:=by simpa using λh=>hs (.inl h)
  have g2:(st !=2)=true:=by simpa using λh=>hs (.inr h)
  clear Mx AB DG hs;go_wp2_with fail;go_ret2;exact⟨sh U 0 0,by rw[HR.out];rfl,by rw[HR.out];exact Rc.nh _ _,xi.out _⟩
theorem LW(here:ByteArray)(ps pm pw:Option Addr)(ns cs nm cm nw cw:Nat)(px py pz ph pq:Int)(q:Qu)(t:Int)(sv:List Sv.nj)(ms:List Mem)(wh:List Wh.nZ)(w:World)(hq:q.ok)(hk:B4 here sv ms ⟨px,py,pz,ph,pq⟩ wh)(hs:Sv.Sl w (sh ps ns cs) sv)(hm:Sl w (sh pm nm cm) ms)(hw:Wh.Sl w (sh pw nw cw) wh) :
 Calls AT 190 #[Iu (tH here (sh ps ns cs) (sh pm nm cm) px py pz ph pq (sh pw nw cw)),Iu #[I q.service,I q.tag,I q.node,I q.mM],O J t] w λe w'=>∃v,e=Ia (Ir #[v,O J (uY q t here sv ms ⟨px,py,pz,ph,pq⟩ wh).code,O J (uY q t here sv ms ⟨px,py,pz,ph,pq⟩ wh).e])/\Rc.Own w.heap.size w' v (uY q t here sv ms ⟨px,py,pz,ph,pq⟩ wh).rs/\Below w.heap.size w w':=by
 have hn:nm<=1000:=by
  obtain⟨_,_,he,_,_⟩:=id hm;simp only[IM] at he;have:=(mU hk.ms).1;omega
 have HS:Hid (Sv.Sl _ _ _):=hs;have HM:Hid (Sl _ _ _):=hm;have HW:Hid (Wh.Sl _ _ _):=hw;have HP:Hid (∀W,Calls _ _ _ _ _):=λW=>CR q W hq;have hPQ:rH q=0->pt q=0:=λh=>by unfold rH at h;by_cases h2:pt q=0;exact h2;rw[if_neg h2] at h;exact absurd h h2
 have HND:Hid (∀W,Sl W (sh pm nm cm) ms->Calls _ _ _ _ _):=λW h=>TF here ps pm pw ns cs nm cm nw cw px py pz ph pq q (tN q) t ms W hn h rfl;have HSV:Hid (rH q=0->q.node.size=0->∀W,Sv.Sl W (sh ps ns cs) sv->Sl W (sh pm nm cm) ms->Wh.Sl W (sh pw nw cw) wh->Calls AT 229 #[Iu (tH here (sh ps ns cs) (sh pm nm cm) px py pz ph pq (sh pw nw cw)),Iu #[I q.service,I q.tag,I q.node,I q.mM],Iu #[I (tN q),O J t,O J 0,O J 0,I ⟨#[]⟩,O J 0,I ⟨#[]⟩]] W λe w'=>∃v,e=Ia (Ir #[v,O J (ub q t here sv ms ⟨px,py,pz,ph,pq⟩ wh).code,O J (ub q t here sv ms ⟨px,py,pz,ph,pq⟩ wh).e])/\Rc.Own W.heap.size w' v (ub q t here sv ms ⟨px,py,pz,ph,pq⟩ wh).rs/\Below W.heap.size W w'):=λh0 h1 W a1 a2 a3=>GZ here ps pm pw ns cs nm cm nw cw px py pz ph pq q (tN q) t sv ms wh W hq (hPQ h0) h1 hk a1 a2 a3 rfl;have HNE:Hid ((uX q t ms).e=0):=by show(uX q t ms).e=0;unfold uX;(repeat' split)<;>rfl
 have Rt:Hid (rH q≠0->uY q t here sv ms ⟨px,py,pz,ph,pq⟩ wh=⟨[],0,rH q⟩):=λh=>by unfold uY;rw[if_neg h]
 have Mx:Hid (rH q=0->q.mM.size≠0->q.mM≠here->uY q t here sv ms ⟨px,py,pz,ph,pq⟩ wh=⟨[],3,0⟩):=λh h1 h2=>by unfold uY;rw[if_pos h,if_pos ⟨h1,h2⟩]
 have AB:Hid (rH q=0->¬ (q.mM.size≠0/\q.mM≠here)->q.node.size≠0->uY q t here sv ms ⟨px,py,pz,ph,pq⟩ wh=uX q t ms):=λh h1 h2=>by unfold uY;rw[if_pos h,if_neg h1,if_pos h2]
 have DG:Hid (rH q=0->¬ (q.mM.size≠0/\q.mM≠here)->q.node.size=0->uY q t here sv ms ⟨px,py,pz,ph,pq⟩ wh=ub q t here sv ms ⟨px,py,pz,ph,pq⟩ wh):=λh h1 h2=>by unfold uY;rw[if_pos h,if_neg h1,if_neg (by omega)]
 clear hs hm hw hk hPQ hq;generalize uY q t here sv ms ⟨px,py,pz,ph,pq⟩ wh=A at *;generalize uX q t ms=AN at *;generalize ub q t here sv ms ⟨px,py,pz,ph,pq⟩ wh=AS at *;generalize rH q=PE at *;generalize tN q=name at *;obtain⟨qs,qt,qn,qc⟩:=q;simp only at *;go_enter func190,ntmps190;go_wp2_with fail;obtain⟨W,hW⟩:∃W,W=(w.alloc (Ib (tH here (sh ps ns cs) (sh pm nm cm) px py pz ph pq (sh pw nw cw)) 87)).alloc (Ib #[I qs,I qt,I qn,I qc] 67):=⟨_,rfl⟩;rw[<- hW];have rj:Below w.heap.size w W:=by rw[hW];exact((If _ _).alloc (By _) _).alloc (by simp) _
 have hG0:W.heap[w.heap.size]?=AI (Ib (tH here (sh ps ns cs) (sh pm nm cm) px py pz ph pq (sh pw nw cw)) 87 (0,0)):=by rw[hW,Iv _ _ _ (by simp)];exact Ii w _
 have Ch:W.heap[w.heap.size+1]?=AI (Ib #[I qs,I qt,I qn,I qc] 67 (0,0)):=by
  rw[hW];have h:=Ii (w.alloc (Ib (tH here (sh ps ns cs) (sh pm nm cm) px py pz ph pq (sh pw nw cw)) 87)) (Ib #[I qs,I qt,I qn,I qc] 67);simpa using h
 have CB:w.heap.size+2<=W.heap.size:=by rw[hW];simp
 clear hW;refine(HP.out _).mono ?_;rintro e w1 ⟨rfl,mO⟩;have sj:=mO.size;have mY:Hid _:=rj.trans (mO.mono (by omega));have k0:=(mO.block _ (by omega)).trans hG0;have k1:=(mO.block _ (by omega)).trans Ch;by_cases h0:PE=0
 .have apY:Hid _:=Mx.out h0
  have Ae:Hid _:=AB.out h0;have Pj:Hid _:=DG.out h0;have alT:Hid _:=HSV.out h0;have yo:∀ob,(w1.alloc ob).heap[w.heap.size]?=AI (Ib (tH here (sh ps ns cs) (sh pm nm cm) px py pz ph pq (sh pw nw cw)) 87 (0,0)):=λob=>by rw[Iv _ _ _ (by omega)];exact k0
  have uN:∀ob,(w1.alloc ob).heap[w.heap.size+1]?=AI (Ib #[I qs,I qt,I qn,I qc] 67 (0,0)):=λob=>by rw[Iv _ _ _ (by omega)];exact k1
  have d0:∀ob,(w1.alloc ob).cell? ⟨w.heap.size,0,U⟩=AI (I here):=λob=>fi (yo ob) 0;have d1:∀ob,(w1.alloc ob).cell? ⟨w.heap.size,1,U⟩=AI (sh ps ns cs):=λob=>fi (yo ob) 1;have d2:∀ob,(w1.alloc ob).cell? ⟨w.heap.size,2,U⟩=AI (sh pm nm cm):=λob=>fi (yo ob) 2;have d3:∀ob,(w1.alloc ob).cell? ⟨w.heap.size,3,U⟩=AI (O J px):=λob=>fi (yo ob) 3;have d4:∀ob,(w1.alloc ob).cell? ⟨w.heap.size,4,U⟩=AI (O J py):=λob=>fi (yo ob) 4;have d5:∀ob,(w1.alloc ob).cell? ⟨w.heap.size,5,U⟩=AI (O J pz):=λob=>fi (yo ob) 5;have d6:∀ob,(w1.alloc ob).cell? ⟨w.heap.size,6,U⟩=AI (O J ph):=λob=>fi (yo ob) 6;have d7:∀ob,(w1.alloc ob).cell? ⟨w.heap.size,7,U⟩=AI (O J pq):=λob=>fi (yo ob) 7;have d8:∀ob,(w1.alloc ob).cell? ⟨w.heap.size,8,U⟩=AI (sh pw nw cw):=λob=>fi (yo ob) 8;have q0:∀ob,(w1.alloc ob).cell? ⟨w.heap.size+1,0,U⟩=AI (I qs):=λob=>fi (uN ob) 0;have q1:∀ob,(w1.alloc ob).cell? ⟨w.heap.size+1,1,U⟩=AI (I qt):=λob=>fi (uN ob) 1;have q2:∀ob,(w1.alloc ob).cell? ⟨w.heap.size+1,2,U⟩=AI (I qn):=λob=>fi (uN ob) 2;have q3:∀ob,(w1.alloc ob).cell? ⟨w.heap.size+1,3,U⟩=AI (I qc):=λob=>fi (uN ob) 3;have xi:Hid (∀ob,Below w.heap.size w (w1.alloc ob)):=λob=>mY.out.alloc (by omega) ob;clear Rt Mx AB DG HSV yo uN k0 k1 hG0 Ch rj mO;subst h0;by_cases hc:qc.size≠0/\qc≠here
  .have HR:Hid _:=apY.out hc.1 hc.2
   obtain⟨e1,e2⟩:=oC hc.1;obtain⟨e3,e4⟩:=o0 hc.2;clear hc;go_wp2_with fail;go_ret3
   exact⟨sh U 0 0,by rw[HR.out];rfl,by rw[HR.out];exact Rc.nh _ _,xi.out _⟩
  .have aes:Hid _:=Ae.out hc
   have aet:Hid _:=Pj.out hc;have hcc:((qc.toList==[])=true/\qc.toList=[])\/((qc.toList==[])=false/\¬ qc.toList=[]/\(qc.toList==here.toList)=true/\qc.toList=here.toList):=by
    by_cases h:qc.size=0
    .have e:=nB h
     have h2:qc.toList=[]:=by rw[e,IZ]
     exact .inl ⟨by rw[h2];rfl,h2⟩
    .have e:qc=here:=by
      by_cases e:qc=here
      .exact e
      .exact absurd ⟨h,e⟩ hc
     exact .inr ⟨(oC h).1,(oC h).2,by rw[e];simp,by rw[e]⟩
   clear hc apY Ae Pj;by_cases LU:qn.size=0
   .have HR:Hid _:=aet.out LU
    have avT:Hid _:=alT.out LU;have g4:qn.toList=[]:=by rw[nB LU,IZ]
    have g3:(qn.toList==[])=true:=by rw[g4];rfl
    clear g4;clear aes aet alT LU;rcases hcc with⟨g1,-⟩|⟨g1,g2,g5,-⟩;all_goals
     go_wp2_with fail;refine Calls.mono (avT.out _ (HS.out.below (xi.out _)) (HM.out.below (xi.out _)) (HW.out.below (xi.out _))) ?_;rintro e w2 ⟨v,rfl,ho,mZ⟩;have nR:Hid _:=(xi.out _).trans (mZ.mono (by simp<;>omega));have sI:Hid (Rc.Own w.heap.size w2 v AS.rs):=ho.mono (by simp<;>omega);clear ho mZ;go_wp2_with fail;go_ret3
     exact⟨v,by rw[HR.out];rfl,by rw[HR.out];exact sI.out,nR.out⟩
   .have HR:Hid _:=aes.out LU
    obtain⟨g3,g4⟩:=oC LU;clear aes aet alT LU;rcases hcc with⟨g1,-⟩|⟨g1,g2,g5,-⟩;all_goals
     go_wp2_with fail;refine Calls.mono (HND.out _ (HM.out.below (xi.out _))) ?_;rintro e w2 ⟨v,rfl,ho,mZ⟩;have nR:Hid _:=(xi.out _).trans (mZ.mono (by simp<;>omega));have sI:Hid (Rc.Own w.heap.size w2 v AN.rs):=ho.mono (by simp<;>omega);clear ho mZ;go_wp2_with fail;go_ret3
     exact⟨v,by rw[HR.out,HNE.out];rfl,by rw[HR.out];exact sI.out,nR.out⟩
 .have HR:Hid _:=Rt.out h0
  have h0':(PE !=0)=true:=by simpa using h0
  clear Rt Mx AB DG HSV k0 k1 hG0 Ch rj mO;go_wp2_with fail;go_ret3
  exact⟨sh U 0 0,by rw[HR.out];rfl,by rw[HR.out];exact Rc.nh _ _,mY.out⟩
def Ru(q:Qu)(t:Int)(here:ByteArray)(sv:List Sv.nj)(ms:List Mem)(p:Pl)(wh:List Wh.nZ):Ans:=
 if asE q t=0 then(if Ab here sv ms p wh=0 then uY q t here sv ms p wh else⟨[],0,Ab here sv ms p wh⟩) else⟨[],0,asE q t⟩
def alV(v:Value)(c e:Int)(a:Act):Prop:=a.defers=[]/\a.tmps.getD 14 undef=v/\a.tmps.getD 15 undef=O J c/\a.tmps.getD 16 undef=O J e
theorem EC{P:Prop}(h:P:=by
 clear r1 r2 r3;go_wp2_with fail;exact HQY.out HRK.out _ _ _ _ _ _ _ _ _ _ _ _ _ _ _ _ _ _ _ _ _ _ _ _ _ _ _ _ _ _ _ _ _ _ _ _ _ _ _ _ _ _ _ _ _ _ _ _ _ _ _ _ _ _ _ _ _ _ v' w6 Bl.out tq.out):P:=h
theorem rr5{u0 u3 u4 u5 u6 u7 u8 u9 ac jG af ai aj ap au aA aD aE aK aL aM aN aO aP aQ aR aT aU aV aW aX aY aZ ba bc be bf bi bj bp bq bu bw bz bA bB bC bD bE bF bJ bK bL bM bN bO bP bQ bT bU bV bW bX bY bZ cd cj cx cy cz cA cB cC cD cE cF cG cH cI cJ cK cM cO cP cQ cR cS cT cU cV cW cX cY cZ da dd de df dg dh di dj dl dn dt du dv dw dx dA dB dC dD dE dF dG dH dI dJ dK dL dM dO dP dQ dR dS dU dW dX dY dZ ea eb ed ee ei ej el eo ep eu ew ex ey jH ez eA eC eD eE eF eG eH eI eJ eK eL eM eN eO eP eQ eR eS eT eU eV eW eX eY eZ e9 fb fc fe ff fh fj fm fp fq fs fu fw fx fy fA fB fC fD fE fF fG fH fI fJ fK fL fM fN fO fP fQ fS fT fU fV fW fX fY fZ ga gc gd gh gi gj gk gl gn gr:Value}(B:Nat)(name here:ByteArray)(t:Int)(found:List Sv.nj)(SL:List ByteArray)(DL:List Rc.Rec)(pf pn:Option Addr)(n cf m cn i k:Nat)(vo:Value)(w:World)(hh:here.size<=Il)(hk:k<n)(hi:i<m)(hDL:DL.length<=20)(Cj:B<=w.heap.size)(HF:Hid (Sv.Sl w (sh pf n cf) found))(HS:Hid (Bi w (sh pn m cn) SL))(HO:Hid (Rc.Own B w vo DL))(Q:Exit->Act->World->Prop)(hN:(found.getD k Sv.dm).node≠SL.getD i Ie->∀(lK iq iu iw ix iy iz iA iB iC iD iE iF iG iH iI iJ iK iL iM iN iO iP iQ iR iS iT iU iV iW iX iY iZ i1 i2 ja jb jc jf ji jj jk jo jp jq ju jv jw jx jy jz jA jC jD jF jI jJ jK:Value) (wx:World),Rc.Own B wx vo DL->Below B w wx->Q .normal ⟨#[u0,O J t,I here,u3,u4,u5,u6,u7,u8,u9,ac,jG,af,ai,aj,ap,au,O J 0,I name,aA,sh pf n cf,sh pn m cn,aD,aE,vo,O J i,O J k,lK,aL,aM,aN,aO,aP,aQ,aR,aT,aU,aV,aW,aX,aY,aZ,ba,bc,be,bf,bi,bj,bp,bq,bu,bw,bz,bA,bB,bC,bD,bE,bF,bJ,bK,bL,bM,bN,bO,bP,bQ,bT,bU,bV,bW,bX,bY,bZ,cd,cj,cx,cy,cz,cA,cB,cC,cD,cE,cF,cG,cH,cI,cJ,cK,cM,cO,cP,cQ,cR,cS,cT,cU,cV,cW,cX,cY,cZ,da,dd,de,df,dg,dh,di,dj,dl,dn,dt,du,dv,dw,dx,dA,dB,dC,dD,dE,dF,dG,dH,dI,dJ,dK,dL,dM,dO,dP,dQ,dR,dS,dU,dW,dX,dY,dZ,ea,eb,ed,ee,ei,ej,el,eo,ep,eu,ew,ex,ey,jH,ez,eA,eC,eD,eE,eF,eG,eH,eI,eJ,eK,eL,iq,iu,iw,ix,iy,iz,iA,iB,iC,iD,iE,iF,iG,iH,iI,iJ,iK,iL,iM,iN,iO,iP,iQ,iR,iS,iT,iU,iV,iW,iX,iY,iZ,i1,i2,ja,jb,jc,jf,ji,jj,jk,jo,jp,jq,ju,jv,jw,jx,jy,jz,jA,jC,jD,jF,jI,jJ,jK,gh,gi,gj,gk,gl,gn,gr],[]⟩ wx)(hY:(found.getD k Sv.dm).node=SL.getD i Ie->qI here t (found.getD k Sv.dm)=0->∀(lK iq iu iw ix iy iz iA iB iC iD iE iF iG iH iI iJ iK iL iM iN iO iP iQ iR iS iT iU iV iW iX iY iZ i1 i2 ja jb jc jf ji jj jk jo jp jq ju jv jw jx jy jz jA jC jD jF jI jJ jK vo':Value) (wx:World),Rc.Own B wx vo' (DL++[pG name here t (found.getD k Sv.dm)])->Below B w wx->Q .normal ⟨#[u0,O J t,I here,u3,u4,u5,u6,u7,u8,u9,ac,jG,af,ai,aj,ap,au,O J 0,I name,aA,sh pf n cf,sh pn m cn,aD,aE,vo',O J i,O J k,lK,aL,aM,aN,aO,aP,aQ,aR,aT,aU,aV,aW,aX,aY,aZ,ba,bc,be,bf,bi,bj,bp,bq,bu,bw,bz,bA,bB,bC,bD,bE,bF,bJ,bK,bL,bM,bN,bO,bP,bQ,bT,bU,bV,bW,bX,bY,bZ,cd,cj,cx,cy,cz,cA,cB,cC,cD,cE,cF,cG,cH,cI,cJ,cK,cM,cO,cP,cQ,cR,cS,cT,cU,cV,cW,cX,cY,cZ,da,dd,de,df,dg,dh,di,dj,dl,dn,dt,du,dv,dw,dx,dA,dB,dC,dD,dE,dF,dG,dH,dI,dJ,dK,dL,dM,dO,dP,dQ,dR,dS,dU,dW,dX,dY,dZ,ea,eb,ed,ee,ei,ej,el,eo,ep,eu,ew,ex,ey,jH,ez,eA,eC,eD,eE,eF,eG,eH,eI,eJ,eK,eL,iq,iu,iw,ix,iy,iz,iA,iB,iC,iD,iE,iF,iG,iH,iI,iJ,iK,iL,iM,iN,iO,iP,iQ,iR,iS,iT,iU,iV,iW,iX,iY,iZ,i1,i2,ja,jb,jc,jf,ji,jj,jk,jo,jp,jq,ju,jv,jw,jx,jy,jz,jA,jC,jD,jF,jI,jJ,jK,gh,gi,gj,gk,gl,gn,gr],[]⟩ wx)(hE:(found.getD k Sv.dm).node=SL.getD i Ie->qI here t (found.getD k Sv.dm)≠0->∀a W,alV (sh U 0 0) 0 (qI here t (found.getD k Sv.dm)) a->Below B w W->Q .ret a W) :
 Code.wp AT ((Tryz.f48.body.bind (xo 5)).getD .skip) Q ⟨#[u0,O J t,I here,u3,u4,u5,u6,u7,u8,u9,ac,jG,af,ai,aj,ap,au,O J 0,I name,aA,sh pf n cf,sh pn m cn,aD,aE,vo,O J i,O J k,aK,aL,aM,aN,aO,aP,aQ,aR,aT,aU,aV,aW,aX,aY,aZ,ba,bc,be,bf,bi,bj,bp,bq,bu,bw,bz,bA,bB,bC,bD,bE,bF,bJ,bK,bL,bM,bN,bO,bP,bQ,bT,bU,bV,bW,bX,bY,bZ,cd,cj,cx,cy,cz,cA,cB,cC,cD,cE,cF,cG,cH,cI,cJ,cK,cM,cO,cP,cQ,cR,cS,cT,cU,cV,cW,cX,cY,cZ,da,dd,de,df,dg,dh,di,dj,dl,dn,dt,du,dv,dw,dx,dA,dB,dC,dD,dE,dF,dG,dH,dI,dJ,dK,dL,dM,dO,dP,dQ,dR,dS,dU,dW,dX,dY,dZ,ea,eb,ed,ee,ei,ej,el,eo,ep,eu,ew,ex,ey,jH,ez,eA,eC,eD,eE,eF,eG,eH,eI,eJ,eK,eL,eM,eN,eO,eP,eQ,eR,eS,eT,eU,eV,eW,eX,eY,eZ,e9,fb,fc,fe,ff,fh,fj,fm,fp,fq,fs,fu,fw,fx,fy,fA,fB,fC,fD,fE,fF,fG,fH,fI,fJ,fK,fL,fM,fN,fO,fP,fQ,fS,fT,fU,fV,fW,fX,fY,fZ,ga,gc,gd,gh,gi,gj,gk,gl,gn,gr],[]⟩ w:=by
 conv=>arg 2;whnf
 obtain⟨i0,qg,oS,so,sf⟩:=Jc rcI;obtain⟨_,_,hfe,ux,hfa⟩:=HF.out;simp only[IM] at hfe;obtain⟨rfl,uU,rfl⟩:=hfe;obtain⟨b,off,tr,o8,hr⟩:∃b off,pf=AI ⟨b,off,U⟩/\b<w.heap.size/\Sv.Row w b off found:=by
  rcases hfa with h|h
  .rw[h] at uU;simp at uU;omega
  .exact h
 subst tr;obtain⟨c0,c1,-,-,c4,c5,-,-,-⟩:=hr k (by omega);have DZ:=(ux k).1;obtain⟨_,_,An,_,hsa⟩:=HS.out;simp only[IM] at An;obtain⟨rfl,DA,rfl⟩:=An;obtain⟨bn,on,SR,oR,Bk⟩:∃b off,pn=AI ⟨b,off,U⟩/\b<w.heap.size/\acH w b off SL:=by
  rcases hsa with h|h
  .rw[h] at DA;simp at DA;omega
  .exact h
 subst SR;have s0:=Bk i (by omega);have CV:Hid _:=hN;have alW:Hid _:=hY;have Ws:Hid _:=hE;clear hN hY hE hfa hr ux uU hsa Bk DA HF HS;generalize SL.getD i Ie=sn at *;generalize found.getD k Sv.dm=x at *;obtain⟨nd,oI,Fz,tag,ad,po,wQ,wR,wN⟩:=x;simp only at *;have Ni:(0:Int)<=(k:Int):=OM _;have hk1:(k:Int)<(n:Int):=by omega
 have aDR:(0:Int)<=(i:Int):=OM _;have aDS:(i:Int)<(m:Int):=by omega
 by_cases nK:nd=sn
 .have h3:(nd.toList==sn.toList)=true:=by rw[nK];simp
  have Pn:Hid _:=alW.out nK;have aeu:Hid _:=Ws.out nK;clear CV alW Ws nK;have hpr:∀W,Calls AT 46 #[Iu #[I ⟨#[]⟩,I ⟨#[]⟩,I nd,I here]] W λe w'=>e=Ia (Ir #[I (tN (qN nd here)),O J (rH (qN nd here))])/\Below W.heap.size W w':=λW=>yF (qN nd here) W ⟨by show(J9 #[]).size<=Il;decide,by show(J9 #[]).size<=Il;decide,DZ,hh⟩;have HP:Hid _:=hpr;clear hpr;by_cases t1:t=1
  .have HRK:Hid (qI here t ⟨nd,oI,Fz,tag,ad,po,wQ,wR,wN⟩=0):=by subst t1;rfl
   have sr:Hid (pG name here t ⟨nd,oI,Fz,tag,ad,po,wQ,wR,wN⟩=⟨name,t,0,ad,⟨#[]⟩,0,⟨#[]⟩⟩):=by subst t1;rfl
   have TG:=Pn.out;rw[sr.out] at TG;have HQY:Hid _:=TG;have g1:(t==1)=true:=by simpa using t1
   clear TG Pn aeu t1 HP;go_wp2_with fail;go_quiet (fail)
   obtain⟨W,hW⟩:∃W,W=w.drewN nq:=⟨_,rfl⟩;rw[<- hW];have rW:Hid (Below B w W):=by rw[hW];exact wG (If _ _) _
   have Ck:Hid (Rc.Own B W vo DL):=by rw[hW];exact HO
   have e0:W.cell? ⟨b,off+k*9,U⟩=AI (I nd):=by rw[hW];exact c0
   have e1:W.cell? ⟨b,off+k*9+1,U⟩=AI (I oI):=by rw[hW];exact c1
   have e4:W.cell? ⟨b,off+k*9+4,U⟩=AI (O J ad):=by rw[hW];exact c4
   have e5:W.cell? ⟨b,off+k*9+5,U⟩=AI (O J po):=by rw[hW];exact c5
   have WA:b<W.heap.size:=by rw[hW];exact o8
   have hBW:B<=W.heap.size:=by rw[hW];exact Cj
   clear hW c0 c1 c4 c5 s0 o8 oR;go_wp2_with (at_builtin;refine IY _ rfl _ _ 61 rfl B 104 i0 _ 7 80 Qc qg oS so sf rfl (by omega) _ DL.length (Rc.fl DL) rfl ?hown _ 1 1 [I name,O J t,O J 0,O J ad,I ⟨#[]⟩,O J 0,I ⟨#[]⟩] rfl rfl ?hnews (Rc.pX ⟨name,t,0,ad,⟨#[]⟩,0,⟨#[]⟩⟩) ?h63 ?hbytes ?hbase ?_)
   case hown=>exact(Ck.out.below ((If _ _).alloc (By _) _)).below ((If _ _).alloc (By _) _)
   case hnews=>(intro j u hj;rw[I4];exact(oY (by simp)).trans (by simpa using hj))
   case h63=>(unfold Il;omega)
   case hbytes=>omega
   case hbase=>(simp;omega)
   intro v' w6 r1 r2 r3;have tq:Hid _:=((rW.out.alloc hBW _).alloc (by simp<;>omega) _).grown r2 (by simp<;>omega) (λj hj=>(Ck.out.lt j hj).1);have Bl:Hid (Rc.Own B w6 v' (DL++[⟨name,t,0,ad,⟨#[]⟩,0,⟨#[]⟩⟩])):=Rc.qC r1;exact EC
  .by_cases t16:t=16
   .have HRK:Hid (qI here t ⟨nd,oI,Fz,tag,ad,po,wQ,wR,wN⟩=0):=by subst t16;rfl
    have sr:Hid (pG name here t ⟨nd,oI,Fz,tag,ad,po,wQ,wR,wN⟩=⟨name,t,0,0,oI,0,⟨#[]⟩⟩):=by subst t16;rfl
    have TG:=Pn.out;rw[sr.out] at TG;have HQY:Hid _:=TG;have g1:(t==1)=false:=by simpa using t1
    have g2:(t==16)=true:=by simpa using t16
    clear TG Pn aeu t1 t16 HP;go_wp2_with fail;go_quiet (fail)
    obtain⟨W,hW⟩:∃W,W=w.drewN nq:=⟨_,rfl⟩;rw[<- hW];have rW:Hid (Below B w W):=by rw[hW];exact wG (If _ _) _
    have Ck:Hid (Rc.Own B W vo DL):=by rw[hW];exact HO
    have e0:W.cell? ⟨b,off+k*9,U⟩=AI (I nd):=by rw[hW];exact c0
    have e1:W.cell? ⟨b,off+k*9+1,U⟩=AI (I oI):=by rw[hW];exact c1
    have e4:W.cell? ⟨b,off+k*9+4,U⟩=AI (O J ad):=by rw[hW];exact c4
    have e5:W.cell? ⟨b,off+k*9+5,U⟩=AI (O J po):=by rw[hW];exact c5
    have WA:b<W.heap.size:=by rw[hW];exact o8
    have hBW:B<=W.heap.size:=by rw[hW];exact Cj
    clear hW c0 c1 c4 c5 s0 o8 oR;go_wp2_with (at_builtin;refine IY _ rfl _ _ 61 rfl B 104 i0 _ 7 80 Qc qg oS so sf rfl (by omega) _ DL.length (Rc.fl DL) rfl ?hown _ 1 1 [I name,O J t,O J 0,O J 0,I oI,O J 0,I ⟨#[]⟩] rfl rfl ?hnews (Rc.pX ⟨name,t,0,0,oI,0,⟨#[]⟩⟩) ?h63 ?hbytes ?hbase ?_)
    case hown=>exact(Ck.out.below ((If _ _).alloc (By _) _)).below ((If _ _).alloc (By _) _)
    case hnews=>(intro j u hj;rw[I4];exact(oY (by simp)).trans (by simpa using hj))
    case h63=>(unfold Il;omega)
    case hbytes=>omega
    case hbase=>(simp;omega)
    intro v' w6 r1 r2 r3;have tq:Hid _:=((rW.out.alloc hBW _).alloc (by simp<;>omega) _).grown r2 (by simp<;>omega) (λj hj=>(Ck.out.lt j hj).1);have Bl:Hid (Rc.Own B w6 v' (DL++[⟨name,t,0,0,oI,0,⟨#[]⟩⟩])):=Rc.qC r1;exact EC
   .have g1:(t==1)=false:=by simpa using t1
    have g2:(t==16)=false:=by simpa using t16
    by_cases t33:t=33
    .have BZ:Hid (qI here t ⟨nd,oI,Fz,tag,ad,po,wQ,wR,wN⟩=rH (qN nd here)):=by subst t33;rfl
     have sr:Hid (pG name here t ⟨nd,oI,Fz,tag,ad,po,wQ,wR,wN⟩=⟨name,t,0,0,⟨#[]⟩,po,tN (qN nd here)⟩):=by subst t33;rfl
     have TG:=Pn.out;rw[sr.out] at TG;have HQY:Hid _:=TG;have hQE:=aeu.out;rw[BZ.out] at hQE;have HQX:Hid _:=hQE;have alX:Hid (rH (qN nd here)=0->qI here t ⟨nd,oI,Fz,tag,ad,po,wQ,wR,wN⟩=0):=λh=>BZ.out.trans h;have g3:(t==33)=true:=by simpa using t33
     clear TG hQE Pn aeu t1 t16 t33;generalize rH (qN nd here)=PE at *;generalize tN (qN nd here)=PS at *;go_wp2_with fail;go_quiet (fail)
     obtain⟨W,hW⟩:∃W,W=w.drewN nq:=⟨_,rfl⟩;rw[<- hW];have rW:Hid (Below B w W):=by rw[hW];exact wG (If _ _) _
     have Ck:Hid (Rc.Own B W vo DL):=by rw[hW];exact HO
     have e0:W.cell? ⟨b,off+k*9,U⟩=AI (I nd):=by rw[hW];exact c0
     have e1:W.cell? ⟨b,off+k*9+1,U⟩=AI (I oI):=by rw[hW];exact c1
     have e4:W.cell? ⟨b,off+k*9+4,U⟩=AI (O J ad):=by rw[hW];exact c4
     have e5:W.cell? ⟨b,off+k*9+5,U⟩=AI (O J po):=by rw[hW];exact c5
     have WA:b<W.heap.size:=by rw[hW];exact o8
     have hBW:B<=W.heap.size:=by rw[hW];exact Cj
     clear hW c0 c1 c4 c5 s0 o8 oR;go_wp2_with fail;refine Calls.mono (HP.out _) ?_;rintro e w3 ⟨rfl,nC⟩;have V0:W.heap.size+1<=w3.heap.size:=by have:=nC.size;simpa using this
     have Cv:=(nC.block _ (by simp)).trans (Ii W _);have oT:Hid _:=(rW.out.alloc hBW _).trans (nC.mono (by simp<;>omega));have tQ:Hid (Rc.Own B w3 vo DL):=(Ck.out.below ((If _ _).alloc (By _) _)).below nC;have Mq:Hid (∀g,vo.ownBlock=AI g->g<W.heap.size):=λg h=>(I3 Ck.out g h).2;have l0:=fi Cv 0;have l1:=fi Cv 1;have l2:=fi Cv 2;have l3:=fi Cv 3;have l4:=fi Cv 4;have l5:=fi Cv 5;have l6:=fi Cv 6;have z6:w3.frozen? ⟨W.heap.size,6,U⟩=false:=by simp[Ij,Cv]
     clear nC Cv e0 e1 e4 e5;by_cases h0:PE=0
     .have HRK:Hid _:=alX.out h0
      have qP:Hid (Below B w (w3.setCell ⟨W.heap.size,6,U⟩ (I PS))):=oT.out.setCell (p:=⟨W.heap.size,6,U⟩) hBW _;have Cm:Hid (Rc.Own B (w3.setCell ⟨W.heap.size,6,U⟩ (I PS)) vo DL):=by
       have h:=tQ.out;rcases h.2 with⟨hv,h0⟩|⟨g,c,cur,hv,qa,hg,aev⟩
       .exact⟨h.1,.inl ⟨hv,h0⟩⟩
       .exact⟨h.1,.inr ⟨g,c,cur,hv,qa,(Below.heap_setCell _ _ _ g (by have:=Mq.out g (by rw[hv];rfl);show g≠W.heap.size;omega)).trans hg,aev⟩⟩
      subst h0;clear alX HQX;go_wp2_with (at_builtin;refine IY _ rfl _ _ 61 rfl B 104 i0 _ 7 80 Qc qg oS so sf rfl (by omega) _ DL.length (Rc.fl DL) rfl ?hown _ 1 1 [I name,O J t,O J 0,O J 0,I ⟨#[]⟩,O J po,I PS] rfl rfl ?hnews (Rc.pX ⟨name,t,0,0,⟨#[]⟩,po,PS⟩) ?h63 ?hbytes ?hbase ?_)
      case hown=>exact Cm.out.below ((If _ _).alloc (By _) _)
      case hnews=>(intro j u hj;rw[I4];exact(oY (by simp)).trans (by simpa using hj))
      case h63=>(unfold Il;omega)
      case hbytes=>omega
      case hbase=>(simp;omega)
      intro v' w6 r1 r2 r3;have tq:Hid _:=((qP.out.alloc (by simp<;>omega) _)).grown r2 (by simp<;>omega) (λj hj=>(Cm.out.lt j hj).1);have Bl:Hid (Rc.Own B w6 v' (DL++[⟨name,t,0,0,⟨#[]⟩,po,PS⟩])):=Rc.qC r1;exact EC
     .have h0':(PE !=0)=true:=by simpa using h0
      have HQZ:Hid _:=HQX.out h0;have qP:Hid (Below B w (w3.setCell ⟨W.heap.size,6,U⟩ (I PS))):=oT.out.setCell (p:=⟨W.heap.size,6,U⟩) hBW _;clear alX HQX h0;go_wp2_with fail;exact HQZ.out _ _ ⟨rfl,rfl,rfl,rfl⟩ qP.out
    .have HRK:Hid (qI here t ⟨nd,oI,Fz,tag,ad,po,wQ,wR,wN⟩=0):=by show qI _ _ _=0;unfold qI;rw[if_neg t33]
     have sr:Hid (pG name here t ⟨nd,oI,Fz,tag,ad,po,wQ,wR,wN⟩=⟨name,t,0,0,⟨#[]⟩,0,⟨#[]⟩⟩):=by show pG _ _ _ _=_;unfold pG;rw[if_neg t1,if_neg t16,if_neg t33,if_neg t33]
     have TG:=Pn.out;rw[sr.out] at TG;have HQY:Hid _:=TG;have g3:(t==33)=false:=by simpa using t33
     clear TG Pn aeu t1 t16 t33 HP;go_wp2_with fail;go_quiet (fail)
     obtain⟨W,hW⟩:∃W,W=w.drewN nq:=⟨_,rfl⟩;rw[<- hW];have rW:Hid (Below B w W):=by rw[hW];exact wG (If _ _) _
     have Ck:Hid (Rc.Own B W vo DL):=by rw[hW];exact HO
     have e0:W.cell? ⟨b,off+k*9,U⟩=AI (I nd):=by rw[hW];exact c0
     have e1:W.cell? ⟨b,off+k*9+1,U⟩=AI (I oI):=by rw[hW];exact c1
     have e4:W.cell? ⟨b,off+k*9+4,U⟩=AI (O J ad):=by rw[hW];exact c4
     have e5:W.cell? ⟨b,off+k*9+5,U⟩=AI (O J po):=by rw[hW];exact c5
     have WA:b<W.heap.size:=by rw[hW];exact o8
     have hBW:B<=W.heap.size:=by rw[hW];exact Cj
     clear hW c0 c1 c4 c5 s0 o8 oR;go_wp2_with (at_builtin;refine IY _ rfl _ _ 61 rfl B 104 i0 _ 7 80 Qc qg oS so sf rfl (by omega) _ DL.length (Rc.fl DL) rfl ?hown _ 1 1 [I name,O J t,O J 0,O J 0,I ⟨#[]⟩,O J 0,I ⟨#[]⟩] rfl rfl ?hnews (Rc.pX ⟨name,t,0,0,⟨#[]⟩,0,⟨#[]⟩⟩) ?h63 ?hbytes ?hbase ?_)
     case hown=>exact(Ck.out.below ((If _ _).alloc (By _) _)).below ((If _ _).alloc (By _) _)
     case hnews=>(intro j u hj;rw[I4];exact(oY (by simp)).trans (by simpa using hj))
     case h63=>(unfold Il;omega)
     case hbytes=>omega
     case hbase=>(simp;omega)
     intro v' w6 r1 r2 r3;have tq:Hid _:=((rW.out.alloc hBW _).alloc (by simp<;>omega) _).grown r2 (by simp<;>omega) (λj hj=>(Ck.out.lt j hj).1);have Bl:Hid (Rc.Own B w6 v' (DL++[⟨name,t,0,0,⟨#[]⟩,0,⟨#[]⟩⟩])):=Rc.qC r1;exact EC
 .obtain⟨h3,h4⟩:=o0 nK
  have HQ1:Hid _:=CV.out nK;clear CV alW Ws nK;go_wp2_with fail;go_quiet (fail)
  go_wp2_with fail;exact HQ1.out _ _ _ _ _ _ _ _ _ _ _ _ _ _ _ _ _ _ _ _ _ _ _ _ _ _ _ _ _ _ _ _ _ _ _ _ _ _ _ _ _ _ _ _ _ _ _ _ _ _ _ _ _ _ _ _ _ _ _ (show Rc.Own B (w.drewN _) _ _ from HO.out) (wG (If _ _) _)
def LX(SL:List ByteArray)(L:List Sv.nj)(i k:Nat):List Sv.nj:=qp (SL.take i) L++tf (L.take k) (SL.getD i Ie)
def fk(SL:List ByteArray)(L:List Sv.nj)(i k:Nat):List Sv.nj:=(LX SL L i k).take 20
theorem alY(SL:List ByteArray)(L:List Sv.nj)(i k:Nat):(fk SL L i k).length<=20:=Oh _ _
theorem Po(SL:List ByteArray)(L:List Sv.nj):fk SL L 0 0=[]:=by simp[fk,LX,qp,tf]
theorem FU(SL:List ByteArray)(L:List Sv.nj)(i:Nat):LX SL L i 0=qp (SL.take i) L:=by simp[LX,tf]
theorem aew{SL:List ByteArray}{L:List Sv.nj}{i k:Nat}(hi:i<SL.length)(hk:L.length<=k):LX SL L i k=LX SL L (i+1) 0:=by
 rw[FU,LX,IJ hk,CW hi]
theorem apZ{SL:List ByteArray}{L:List Sv.nj}{i k:Nat}(hk:k<L.length)(h:(L.getD k Sv.dm).node≠SL.getD i Ie):fk SL L i (k+1)=fk SL L i k:=by
 have e:tf (L.take (k+1)) (SL.getD i Ie)=tf (L.take k) (SL.getD i Ie):=by
  rw[vI hk];exact yQ _ _ (O2 h)
 unfold fk LX;rw[e]
theorem aex{SL:List ByteArray}{L:List Sv.nj}{i k:Nat}(hk:k<L.length)(h:(L.getD k Sv.dm).node=SL.getD i Ie)(hl:(fk SL L i k).length<20):fk SL L i (k+1)=fk SL L i k++[L.getD k Sv.dm]:=by
 have e:tf (L.take (k+1)) (SL.getD i Ie)=tf (L.take k) (SL.getD i Ie)++[L.getD k Sv.dm]:=by
  rw[vI hk,<- h];exact AE _ _
 have hlen:(LX SL L i k).length<20:=by
  unfold fk at hl;rw[IA] at hl;omega
 have e2:LX SL L i (k+1)=LX SL L i k++[L.getD k Sv.dm]:=by
  unfold LX;rw[e,Jh]
 unfold fk;rw[e2,IJ (by rw[Iq,List.length_singleton];omega),IJ (by omega)]
theorem ahS{SL:List ByteArray}{L:List Sv.nj}{i k:Nat}(hi:i<SL.length):∃R,qp SL L=LX SL L i k++R:=by
 have e1:SL=SL.take i++(SL.getD i Ie::SL.drop (i+1)):=by
  have h1:SL.getD i Ie=SL[i]:=by simp[Ip,Ih hi]
  rw[h1,<- List.drop_eq_getElem_cons hi,O3]
 have e2:tf L (SL.getD i Ie)=tf (L.take k) (SL.getD i Ie)++tf (L.drop k) (SL.getD i Ie):=by
  unfold tf;rw[<- JJ,O3]
 refine⟨tf (L.drop k) (SL.getD i Ie)++qp (SL.drop (i+1)) L,?_⟩;have e3:qp SL L=qp (SL.take i) L++(tf L (SL.getD i Ie)++qp (SL.drop (i+1)) L):=by
  conv=>lhs;rw[e1]
  unfold qp;rw[Qh,List.flatMap_cons]
 rw[e3,e2,LX];simp[Jh]
theorem alZ{SL:List ByteArray}{L:List Sv.nj}{i k:Nat}(hi:i<SL.length):∃R,(qp SL L).take 20=fk SL L i k++R:=by
 obtain⟨R,h⟩:=ahS (L:=L) (k:=k) hi;exact⟨R.take (20-(LX SL L i k).length),by rw[h,List.take_append];rfl⟩
theorem ahT{SL:List ByteArray}{L:List Sv.nj}{i k:Nat}(hi:i<SL.length)(hl:¬ (fk SL L i k).length<20):fk SL L i k=fk SL L (i+1) 0:=by
 have hlen:20<=(LX SL L i k).length:=by
  unfold fk at hl;rw[IA] at hl;omega
 have e:LX SL L (i+1) 0=LX SL L i k++tf (L.drop k) (SL.getD i Ie):=by
  rw[FU,CW hi,LX];have e2:tf L (SL.getD i Ie)=tf (L.take k) (SL.getD i Ie)++tf (L.drop k) (SL.getD i Ie):=by
   unfold tf;rw[<- JJ,O3]
  rw[e2,Jh]
 unfold fk;rw[e,List.take_append_of_le_length hlen]
theorem ahU{SL:List ByteArray}{L:List Sv.nj}{i k:Nat}(hi:i<SL.length)(hk:L.length<=k):fk SL L i k=fk SL L (i+1) 0:=by
 unfold fk;rw[aew hi hk]
theorem al0{SL:List ByteArray}{L:List Sv.nj}{i:Nat}(hi:SL.length<=i):fk SL L i 0=(qp SL L).take 20:=by
 unfold fk;rw[FU,IJ hi]
def noE(here:ByteArray)(t:Int)(l:List Sv.nj):Prop:=∀j,j<l.length->qI here t (l.getD j Sv.dm)=0
theorem aez{here:ByteArray}{t:Int}{l:List Sv.nj}{x:Sv.nj}(h:noE here t l)(hx:qI here t x=0):noE here t (l++[x]):=λj hj=>by
 by_cases e:j<l.length
 .have:=h j e
  simpa[Ip,Js e] using this
 .have e2:j=l.length:=by simp at hj;omega
  subst e2;simpa[Ip] using hx
theorem ahV{here:ByteArray}{t:Int}{l R:List Sv.nj}{x:Sv.nj}(h:noE here t l)(hx:qI here t x≠0):qJ here t (l++x::R)=qI here t x:=by
 have e:(l++x::R).getD l.length Sv.dm=x:=by simp[Ip]
 have:=Fx (here:=here) (t:=t) (L:=l++x::R) (k:=l.length) (by simp) (λj hj=>by
  have h2:=h j hj;simpa[Ip,Js hj] using h2) (by rw[e];exact hx)
 rw[this,e]
theorem ahW{here:ByteArray}{t:Int}{l:List Sv.nj}(h:noE here t l):qJ here t l=0:=CQ h
theorem al1{here:ByteArray}{t:Int}{SL:List ByteArray}{L:List Sv.nj}{i k:Nat}(hi:i<SL.length)(hk:k<L.length)(h:(L.getD k Sv.dm).node=SL.getD i Ie)(hl:(fk SL L i k).length<20)(hz:noE here t (fk SL L i k))(hx:qI here t (L.getD k Sv.dm)≠0):qJ here t ((qp SL L).take 20)=qI here t (L.getD k Sv.dm):=by
 obtain⟨R,hR⟩:=alZ (L:=L) (k:=k+1) hi;rw[hR,aex hk h hl,Jh];exact ahV hz hx
theorem Pp{ms:List Mem}{L:List Sv.nj}{k:Nat}(hk:k<L.length):qH (nf ms (L.take (k+1)))=if wL ms (L.getD k Sv.dm).node=true then qH (nf ms (L.take k)) else Aa (qH (nf ms (L.take k))) (L.getD k Sv.dm).node:=by
 rw[vI hk];by_cases h:wL ms (L.getD k Sv.dm).node=true
 .rw[if_pos h,KE h]
 .have h2:wL ms (L.getD k Sv.dm).node=false:=by simpa using h
  rw[if_neg h,KD h2,yJ]
theorem TH(L:List Sv.nj):(qH L).length<=L.length:=by
 refine yK (p:=λL=>(qH L).length<=L.length) (by simp[qH]) (λl s ih=>?_) L;rw[yJ];unfold Aa;split<;>simp<;>omega
theorem wB{B:Nat}{w:World}{v:Value}{ms:List Rc.Rec}(h:Rc.Own B w v ms):∃p c,v=sh p ms.length c:=by
 rcases h.2 with⟨hv,h0⟩|⟨g,c,cur,hv,_⟩
 .exact⟨U,0,by rw[hv,h0]⟩
 .exact⟨_,c,hv⟩
theorem B4.okP{here:ByteArray}{sv:List Sv.nj}{ms:List Mem}{p:Pl}{wh:List Wh.nZ}(h:B4 here sv ms p wh):wh.length<=100/\zj p/\∀j,j<wh.length->zj (oJ (yh (wh.getD j Wh.dm))):=by
 obtain⟨h1,_⟩:=h.sort (ns:=[]) (by simp);obtain⟨h2,_,h3,h4⟩:=Te h1;exact⟨h2,h3,h4⟩
theorem ahX{sv:List Sv.nj}(name tag:ByteArray)(h:Sv.nu sv=0):UpN (Sv.nc sv name tag):=ak6 (List.Pairwise.sublist (List.filter_sublist) (Sv.mU h).2.1)
theorem ahY{ms:List Mem}{L:List Sv.nj}(h:UpN L):UpN (nf ms L):=List.Pairwise.sublist (List.filter_sublist) h
theorem al2{u0 u1 u2 u3 u5 u6 u7 u8 u9 ac jG af ai aj ap au ay az aA aE aF aI aJ aK aL aM aN aO aP aQ aR aT aU aV aW aX aY aZ ba bc be bf bi bj bp bq bu bw bz bA bB bC bD bE bF bJ bK bL bM bN bO bP bQ bT bU bV bW bX bY bZ cd cj cx cy cz cA cB cC cD cE cF cG cH cI cJ cK cM cO cP cQ cR cS cT cU cV cW cX cY cZ da dd de df dg dh di dj dl dn dt du dv dw dx dA dB dC dD dE dF dG dH dI dJ dK dL dM dO dP dQ dR dS dU dW dX dY dZ ea eb ed ee ei ej el eo ep eu ew ex ey jH ez eA eC eD eE eF eG eH eI eJ eK eL eM eN eO eP eQ eR eS eT eU eV eW eX eY eZ e9 fb fc fe ff fh fj fm fp fq fs fu fw fx fy fA fB fC fD fE fF fG fH fI fJ fK fL fM fN fO fP fQ fS fT fU fV fW fX fY fZ ga gc gd gh gi gj gk gl gn gr:Value}(ms:List Mem)(FL:List Sv.nj)(pm pf:Option Addr)(nm cm n cf:Nat)(X:World)(vP:nu ms=0)(uU:n<=40)(HUP:Hid (qH (nf ms FL)=nF (nf ms FL)))(HMX:Hid (Sl X (sh pm nm cm) ms))(HFX:Hid (Sv.Sl X (sh pf n cf) FL))(vj:Hid (FL.length=n))(Q:Exit->Act->World->Prop)(hN:∀(lL lJ lM lN lO j8 j9 kd ki kj ko kt ku kw kx ky kz kA kB kC kD kE kF kG kH kI kJ kK kL kM kN kO kP kQ kR kT kU kV kW kX kY kZ ld lg lh lj ln lw lx ly vn:Value) (wx:World),Hid (nD X.heap.size wx vn (nF (nf ms FL)))->Hid (Below X.heap.size X wx)->Q .normal ⟨#[u0,u1,u2,u3,sh pm nm cm,u5,u6,u7,u8,u9,ac,jG,af,ai,aj,ap,au,ay,az,aA,sh pf n cf,vn,lL,lJ,aF,aI,aJ,aK,aL,aM,aN,aO,aP,aQ,aR,aT,aU,aV,aW,aX,aY,aZ,ba,bc,be,bf,bi,bj,bp,bq,bu,bw,bz,bA,bB,bC,bD,bE,bF,bJ,bK,bL,bM,bN,bO,bP,bQ,bT,bU,bV,bW,bX,bY,bZ,cd,cj,cx,cy,cz,cA,cB,cC,cD,cE,cF,cG,cH,cI,cJ,cK,cM,cO,cP,cQ,cR,cS,cT,cU,lM,lN,lO,j8,j9,kd,ki,kj,ko,kt,ku,kw,kx,ky,kz,kA,kB,kC,kD,kE,kF,kG,kH,kI,kJ,kK,kL,kM,kN,kO,kP,kQ,kR,kT,kU,kV,kW,kX,kY,kZ,ld,lg,lh,lj,ln,lw,lx,ly,ej,el,eo,ep,eu,ew,ex,ey,jH,ez,eA,eC,eD,eE,eF,eG,eH,eI,eJ,eK,eL,eM,eN,eO,eP,eQ,eR,eS,eT,eU,eV,eW,eX,eY,eZ,e9,fb,fc,fe,ff,fh,fj,fm,fp,fq,fs,fu,fw,fx,fy,fA,fB,fC,fD,fE,fF,fG,fH,fI,fJ,fK,fL,fM,fN,fO,fP,fQ,fS,fT,fU,fV,fW,fX,fY,fZ,ga,gc,gd,gh,gi,gj,gk,gl,gn,gr],[]⟩ wx) :
 Code.wp AT ((Tryz.f48.body.bind (xo 0)).getD .skip) Q ⟨#[u0,u1,u2,u3,sh pm nm cm,u5,u6,u7,u8,u9,ac,jG,af,ai,aj,ap,au,ay,az,aA,sh pf n cf,sh U 0 0,O J 0,aE,aF,aI,aJ,aK,aL,aM,aN,aO,aP,aQ,aR,aT,aU,aV,aW,aX,aY,aZ,ba,bc,be,bf,bi,bj,bp,bq,bu,bw,bz,bA,bB,bC,bD,bE,bF,bJ,bK,bL,bM,bN,bO,bP,bQ,bT,bU,bV,bW,bX,bY,bZ,cd,cj,cx,cy,cz,cA,cB,cC,cD,cE,cF,cG,cH,cI,cJ,cK,cM,cO,cP,cQ,cR,cS,cT,cU,cV,cW,cX,cY,cZ,da,dd,de,df,dg,dh,di,dj,dl,dn,dt,du,dv,dw,dx,dA,dB,dC,dD,dE,dF,dG,dH,dI,dJ,dK,dL,dM,dO,dP,dQ,dR,dS,dU,dW,dX,dY,dZ,ea,eb,ed,ee,ei,ej,el,eo,ep,eu,ew,ex,ey,jH,ez,eA,eC,eD,eE,eF,eG,eH,eI,eJ,eK,eL,eM,eN,eO,eP,eQ,eR,eS,eT,eU,eV,eW,eX,eY,eZ,e9,fb,fc,fe,ff,fh,fj,fm,fp,fq,fs,fu,fw,fx,fy,fA,fB,fC,fD,fE,fF,fG,fH,fI,fJ,fK,fL,fM,fN,fO,fP,fQ,fS,fT,fU,fV,fW,fX,fY,fZ,ga,gc,gd,gh,gi,gj,gk,gl,gn,gr],[]⟩ X:=by
 conv=>arg 2;whnf
 have CV:Hid _:=hN;clear hN;have aeA:Hid (∀k,k<n->qH (nf ms (FL.take (k+1)))=if wL ms (FL.getD k Sv.dm).node=true then qH (nf ms (FL.take k)) else Aa (qH (nf ms (FL.take k))) (FL.getD k Sv.dm).node):=λk hk=>Pp (by rw[vj.out];exact hk);have DW:Hid (∀k,(qH (nf ms (FL.take k))).length<=40):=λk=>by
  have h1:=TH (nf ms (FL.take k));have h2:=xt ms (FL.take k);have h3:(FL.take k).length<=FL.length:=List.length_take_le' _ _;have h4:=vj.out;omega
 go_wp2_with fail;go_loopw [21,22] (λvn i wr=>∃k:Nat,k<=n/\i=O J k/\Hid (nD X.heap.size wr vn (qH (nf ms (FL.take k))))/\Hid (Below X.heap.size X wr)) (λ_ i _=>n-(intOf i).toNat)
 case atStart=>exact⟨0,Iw _,rfl,tW _ _,If _ _⟩
 case round=>
  obtain⟨k,tp,rfl,HO,HB⟩:=hrel;have hsr:=HB.out.size;by_cases mS:k<n
  .have hlen:=DW.out k
   go_upto_block 1 with fail
   refine rr1 X.heap.size ms FL pm pf nm cm n cf k u21 (qH (nf ms (FL.take k))) wr vP mS hlen hsr (HMX.out.below HB.out) (HFX.out.below HB.out) HO _ ?_;intro _ _ _ _ _ _ _ _ _ _ _ _ _ _ _ _ _ _ _ _ _ _ _ _ _ _ _ _ _ _ _ _ _ _ _ _ _ _ _ _ _ _ _ vn' wx ho hb;have sI:Hid (nD X.heap.size wx vn' (qH (nf ms (FL.take (k+1))))):=by rw[aeA.out k mS];exact ho
   have nR:Hid (Below X.heap.size X wx):=HB.out.trans hb.out;clear ho hb;go_wp2_with fail;go_roundw
   case rel=>exact⟨k+1,by omega,by go_num,sI,nR⟩
   case measure=>simp[intOf];omega
  .have HON:Hid (nD X.heap.size wr u21 (nF (nf ms FL))):=by
    have h:=HO.out;rw[IJ (by rw[vj.out];omega),HUP.out] at h;exact h
   go_wp2_with fail;exact CV.out _ _ _ _ _ _ _ _ _ _ _ _ _ _ _ _ _ _ _ _ _ _ _ _ _ _ _ _ _ _ _ _ _ _ _ _ _ _ _ _ _ _ _ _ _ _ _ _ _ _ _ _ HON HB
theorem al3{u0 u3 u4 u5 u6 u7 u8 u9 ac jG af ai aj ap au aA aD aE aJ aK aL aM aN aO aP aQ aR aT aU aV aW aX aY aZ ba bc be bf bi bj bp bq bu bw bz bA bB bC bD bE bF bJ bK bL bM bN bO bP bQ bT bU bV bW bX bY bZ cd cj cx cy cz cA cB cC cD cE cF cG cH cI cJ cK cM cO cP cQ cR cS cT cU cV cW cX cY cZ da dd de df dg dh di dj dl dn dt du dv dw dx dA dB dC dD dE dF dG dH dI dJ dK dL dM dO dP dQ dR dS dU dW dX dY dZ ea eb ed ee ei ej el eo ep eu ew ex ey jH ez eA eC eD eE eF eG eH eI eJ eK eL eM eN eO eP eQ eR eS eT eU eV eW eX eY eZ e9 fb fc fe ff fh fj fm fp fq fs fu fw fx fy fA fB fC fD fE fF fG fH fI fJ fK fL fM fN fO fP fQ fS fT fU fV fW fX fY fZ ga gc gd gh gi gj gk gl gn gr:Value}(name here:ByteArray)(t:Int)(FL NL:List Sv.nj)(SL:List ByteArray)(pf pn:Option Addr)(n cf m cn:Nat)(Y:World)(hhm:here.size<=Il)(uU:n<=40)(zK:m<=100)(HNR:Hid (NL=(qp SL FL).take 20))(HFY:Hid (Sv.Sl Y (sh pf n cf) FL))(HTY:Hid (Bi Y (sh pn m cn) SL))(vj:Hid (FL.length=n))(Rs:Hid (SL.length=m))(Q:Exit->Act->World->Prop)(hN:∀(hQ lP lQ lR lS lK lD lE lF lG lH hU hZ ia ib ic ie ii ij ik il io ip iq iu iw ix iy iz iA iB iC iD iE iF iG iH iI iJ iK iL iM iN iO iP iQ iR iS iT iU iV iW iX iY iZ i1 i2 ja jb jc jf ji jj jk jo jp jq ju jv jw jx jy jz jA jC jD jF jI jJ jK vo:Value) (wx:World),Hid (Rc.Own Y.heap.size wx vo (NL.map (pG name here t)))->Hid (qJ here t NL=0)->Hid (Below Y.heap.size Y wx)->Q .normal ⟨#[u0,O J t,I here,u3,u4,u5,u6,u7,u8,u9,ac,jG,af,ai,hQ,lP,lQ,O J 0,I name,aA,sh pf n cf,sh pn m cn,aD,aE,vo,lR,lS,lK,aL,aM,aN,aO,aP,aQ,aR,aT,aU,aV,aW,aX,aY,aZ,ba,bc,be,bf,bi,bj,bp,bq,bu,bw,bz,bA,bB,bC,bD,bE,bF,bJ,bK,bL,bM,bN,bO,bP,bQ,bT,bU,bV,bW,bX,bY,bZ,cd,cj,cx,cy,cz,cA,cB,cC,cD,cE,cF,cG,cH,cI,cJ,cK,cM,cO,cP,cQ,cR,cS,cT,cU,cV,cW,cX,cY,cZ,da,dd,de,df,dg,dh,di,dj,dl,dn,dt,du,dv,dw,dx,dA,dB,dC,dD,dE,dF,dG,dH,dI,dJ,dK,dL,dM,dO,dP,dQ,dR,dS,dU,dW,dX,dY,dZ,ea,eb,ed,ee,ei,ej,el,eo,ep,lD,lE,lF,lG,lH,hU,hZ,ia,ib,ic,ie,ii,ij,ik,il,io,ip,iq,iu,iw,ix,iy,iz,iA,iB,iC,iD,iE,iF,iG,iH,iI,iJ,iK,iL,iM,iN,iO,iP,iQ,iR,iS,iT,iU,iV,iW,iX,iY,iZ,i1,i2,ja,jb,jc,jf,ji,jj,jk,jo,jp,jq,ju,jv,jw,jx,jy,jz,jA,jC,jD,jF,jI,jJ,jK,gh,gi,gj,gk,gl,gn,gr],[]⟩ wx)(hE:∀a W,alV (sh U 0 0) 0 (qJ here t NL) a->qJ here t NL≠0->FL≠[]->Below Y.heap.size Y W->Q .ret a W) :
 Code.wp AT ((Tryz.f48.body.bind (xo 2)).getD .skip) Q ⟨#[u0,O J t,I here,u3,u4,u5,u6,u7,u8,u9,ac,jG,af,ai,aj,ap,au,O J 0,I name,aA,sh pf n cf,sh pn m cn,aD,aE,sh U 0 0,O J 0,aJ,aK,aL,aM,aN,aO,aP,aQ,aR,aT,aU,aV,aW,aX,aY,aZ,ba,bc,be,bf,bi,bj,bp,bq,bu,bw,bz,bA,bB,bC,bD,bE,bF,bJ,bK,bL,bM,bN,bO,bP,bQ,bT,bU,bV,bW,bX,bY,bZ,cd,cj,cx,cy,cz,cA,cB,cC,cD,cE,cF,cG,cH,cI,cJ,cK,cM,cO,cP,cQ,cR,cS,cT,cU,cV,cW,cX,cY,cZ,da,dd,de,df,dg,dh,di,dj,dl,dn,dt,du,dv,dw,dx,dA,dB,dC,dD,dE,dF,dG,dH,dI,dJ,dK,dL,dM,dO,dP,dQ,dR,dS,dU,dW,dX,dY,dZ,ea,eb,ed,ee,ei,ej,el,eo,ep,eu,ew,ex,ey,jH,ez,eA,eC,eD,eE,eF,eG,eH,eI,eJ,eK,eL,eM,eN,eO,eP,eQ,eR,eS,eT,eU,eV,eW,eX,eY,eZ,e9,fb,fc,fe,ff,fh,fj,fm,fp,fq,fs,fu,fw,fx,fy,fA,fB,fC,fD,fE,fF,fG,fH,fI,fJ,fK,fL,fM,fN,fO,fP,fQ,fS,fT,fU,fV,fW,fX,fY,fZ,ga,gc,gd,gh,gi,gj,gk,gl,gn,gr],[]⟩ Y:=by
 conv=>arg 2;whnf
 have CV:Hid _:=hN;have Ws:Hid _:=hE;clear hN hE;go_wp2_with fail;go_loopw [17,24,25] (λe vo i wr=>∃j:Nat,j<=m/\i=O J j/\e=O J 0/\Hid (Rc.Own Y.heap.size wr vo ((fk SL FL j 0).map (pG name here t)))/\Hid (noE here t (fk SL FL j 0))/\Hid (Below Y.heap.size Y wr)) (λ_ _ i _=>m-(intOf i).toNat)
 case atStart=>exact⟨0,Iw _,rfl,rfl,by rw[Po];exact Rc.nh _ _,by rw[Po];exact λj hj=>absurd hj (IV _),If _ _⟩
 case round=>
  obtain⟨j,hj,rfl,rfl,HO,HZ,HB⟩:=hrel;by_cases hjm:j<m
  .have VD:j<SL.length:=by rw[Rs.out];exact hjm
   go_wp2_with fail;go_loopw [17,24,26] (λe vo k wr=>∃k':Nat,k'<=n/\k=O J k'/\e=O J 0/\Hid (Rc.Own Y.heap.size wr vo ((fk SL FL j k').map (pG name here t)))/\Hid (noE here t (fk SL FL j k'))/\Hid (Below Y.heap.size Y wr)) (λ_ _ k _=>n-(intOf k).toNat)
   case atStart=>exact⟨0,Iw _,rfl,rfl,HO,HZ,HB⟩
   case round=>
    obtain⟨k,hk,rfl,rfl,HO,HZ,HB⟩:=hrel;have hsr:=HB.out.size;obtain⟨po,co,hvo⟩:=wB HO.out;subst hvo;have ap0:=alY SL FL j k;by_cases mS:k<n
    .have EU:k<FL.length:=by rw[vj.out];exact mS
     by_cases hl20:(fk SL FL j k).length<20
     .have BU:Hid ((FL.getD k Sv.dm).node≠SL.getD j Ie->fk SL FL j (k+1)=fk SL FL j k):=λh=>apZ EU h
      have HY1:Hid ((FL.getD k Sv.dm).node=SL.getD j Ie->fk SL FL j (k+1)=fk SL FL j k++[FL.getD k Sv.dm]):=λh=>aex EU h hl20;have HE1:Hid ((FL.getD k Sv.dm).node=SL.getD j Ie->qI here t (FL.getD k Sv.dm)≠0->qJ here t NL=qI here t (FL.getD k Sv.dm)):=λh h2=>by rw[HNR.out];exact al1 VD EU h hl20 HZ.out h2
      have hdl:((fk SL FL j k).map (pG name here t)).length<20:=by rw[I8];exact hl20
      have avY:((fk SL FL j k).map (pG name here t)).length<=20:=by omega
      have hci:(((fk SL FL j k).map (pG name here t)).length:Int)<20:=by omega
      go_upto_block 5 with fail
      refine rr5 Y.heap.size name here t FL SL ((fk SL FL j k).map (pG name here t)) pf pn n cf m cn j k _ wr hhm mS hjm avY hsr (HFY.out.below HB.out) (HTY.out.below HB.out) HO _ ?hN ?hY ?hE
      case hN=>
       intro hmt _ _ _ _ _ _ _ _ _ _ _ _ _ _ _ _ _ _ _ _ _ _ _ _ _ _ _ _ _ _ _ _ _ _ _ _ _ _ _ _ _ _ _ _ _ _ _ _ _ _ _ _ _ _ _ _ _ _ wx ho hb;have sI:Hid (Rc.Own Y.heap.size wx (sh po ((fk SL FL j k).map (pG name here t)).length co) ((fk SL FL j (k+1)).map (pG name here t))):=by rw[BU.out hmt];exact ho
       have o6:Hid (noE here t (fk SL FL j (k+1))):=by rw[BU.out hmt];exact HZ
       have nR:Hid (Below Y.heap.size Y wx):=HB.out.trans hb;clear ho hb hmt;go_wp2_with fail;go_roundw
       case rel=>exact⟨k+1,by omega,by go_num,rfl,sI,o6,nR⟩
       case measure=>simp[intOf];omega
      case hY=>
       intro hmt oS _ _ _ _ _ _ _ _ _ _ _ _ _ _ _ _ _ _ _ _ _ _ _ _ _ _ _ _ _ _ _ _ _ _ _ _ _ _ _ _ _ _ _ _ _ _ _ _ _ _ _ _ _ _ _ _ _ _ vo' wx ho hb;have sI:Hid (Rc.Own Y.heap.size wx vo' ((fk SL FL j (k+1)).map (pG name here t))):=by rw[HY1.out hmt,List.map_append];exact ho
       have o6:Hid (noE here t (fk SL FL j (k+1))):=by rw[HY1.out hmt];exact aez HZ.out oS
       have nR:Hid (Below Y.heap.size Y wx):=HB.out.trans hb;clear ho hb hmt oS;go_wp2_with fail;go_roundw
       case rel=>exact⟨k+1,by omega,by go_num,rfl,sI,o6,nR⟩
       case measure=>simp[intOf];omega
      case hE=>
       intro hmt oS a W al4 hb;have HER:=HE1.out hmt oS;exact Ws.out a W (by rw[HER];exact al4) (by rw[HER];exact oS) (λh=>by rw[h] at EU;simp at EU) (HB.out.trans hb)
     .have HOV:Hid (fk SL FL j k=fk SL FL (j+1) 0):=ahT VD hl20
      have hdl:¬ (((fk SL FL j k).map (pG name here t)).length:Int)<20:=by rw[I8];omega
      have sI:Hid (Rc.Own Y.heap.size wr (sh po ((fk SL FL j k).map (pG name here t)).length co) ((fk SL FL (j+1) 0).map (pG name here t))):=by rw[<- HOV.out];exact HO
      have o6:Hid (noE here t (fk SL FL (j+1) 0)):=by rw[<- HOV.out];exact HZ
      clear HO HZ HOV hl20 ap0;generalize((fk SL FL j k).map (pG name here t)).length=ll at *;go_wp2_with fail;exact⟨⟨j+1,by omega,by go_num,rfl,sI,o6,HB⟩,by simp[intOf];omega⟩
    .have HOV:Hid (fk SL FL j k=fk SL FL (j+1) 0):=ahU VD (by rw[vj.out];omega)
     have sI:Hid (Rc.Own Y.heap.size wr (sh po ((fk SL FL j k).map (pG name here t)).length co) ((fk SL FL (j+1) 0).map (pG name here t))):=by rw[<- HOV.out];exact HO
     have o6:Hid (noE here t (fk SL FL (j+1) 0)):=by rw[<- HOV.out];exact HZ
     clear HO HZ HOV ap0;generalize((fk SL FL j k).map (pG name here t)).length=ll at *;go_wp2_with fail;exact⟨⟨j+1,by omega,by go_num,rfl,sI,o6,HB⟩,by simp[intOf];omega⟩
  .have HEN:Hid (fk SL FL j 0=NL):=by show _=_;rw[al0 (by rw[Rs.out];omega),HNR.out]
   have sI:Hid (Rc.Own Y.heap.size wr u24 (NL.map (pG name here t))):=by rw[<- HEN.out];exact HO
   have o6:Hid (qJ here t NL=0):=by rw[<- HEN.out];exact ahW HZ.out
   go_wp2_with fail;exact CV.out _ _ _ _ _ _ _ _ _ _ _ _ _ _ _ _ _ _ _ _ _ _ _ _ _ _ _ _ _ _ _ _ _ _ _ _ _ _ _ _ _ _ _ _ _ _ _ _ _ _ _ _ _ _ _ _ _ _ _ _ _ _ _ _ _ _ _ _ _ _ _ _ _ _ _ _ _ _ _ _ _ _ sI o6 HB
theorem aeB{sv:List Sv.nj}{name tag:ByteArray}(h:Sv.nc sv name tag≠[]):Sv.nc sv name ⟨#[]⟩≠[]:=λh2=>by
 obtain⟨x,hx⟩:=List.exists_mem_of_ne_nil _ h;have h3:=JT.1 hx;have h4:x∈Sv.nc sv name ⟨#[]⟩:=JT.2 ⟨h3.1,by
  have h5:=h3.2;unfold Sv.keep at h5 ⊢;simp only[Bool.and_eq_true] at h5 ⊢;exact⟨⟨⟨h5.1.1.1,by rw[IZ];rfl⟩,h5.1.2⟩,h5.2⟩⟩
 rw[h2] at h4;simp at h4
theorem aaF{w W:World}{A:Ans}{v:Value}{a:Act}(h:alV v A.code A.e a)(ho:Rc.Own w.heap.size W v A.rs)(hb:Below w.heap.size w W):bodyPost AT Tryz.f48 (λe w'=>∃v,e=Ia (Ir #[v,O J A.code,O J A.e])/\Rc.Own w.heap.size w' v A.rs/\Below w.heap.size w w') .ret a W:=by
 obtain⟨hd,h1,h2,h3⟩:=h;refine bodyPost_ret (results_tmp3 rfl _ _ _) hd ⟨v,?_,ho,hb⟩;rw[h1,h2,h3]
theorem LY{P:Prop}(h:P:=by
 go_wp2_with fail;go_ret3
 exact⟨sh U 0 0,by rw[HA.out];rfl,by rw[HA.out];exact Rc.nh _ _,HW4.out⟩):P:=h
theorem FV(here:ByteArray)(ps pm pw:Option Addr)(ns cs nm cm nw cw:Nat)(px py pz ph pq:Int)(q:Qu)(t:Int)(sv:List Sv.nj)(ms:List Mem)(wh:List Wh.nZ)(w:World)(hq:q.ok)(hh:here.size<=Il)(hs:Sv.Sl w (sh ps ns cs) sv)(hm:Sl w (sh pm nm cm) ms)(hw:Wh.Sl w (sh pw nw cw) wh) :
 Calls AT 48 #[Iu #[I q.service,I q.tag,I q.node,I q.mM],O J t,I here,sh ps ns cs,sh pm nm cm,Iu #[O J px,O J py,O J pz,O J ph,O J pq],sh pw nw cw] w λe w'=>∃v,e=Ia (Ir #[v,O J (Ru q t here sv ms ⟨px,py,pz,ph,pq⟩ wh).code,O J (Ru q t here sv ms ⟨px,py,pz,ph,pq⟩ wh).e])/\Rc.Own w.heap.size w' v (Ru q t here sv ms ⟨px,py,pz,ph,pq⟩ wh).rs/\Below w.heap.size w w':=by
 have HS:Hid (Sv.Sl _ _ _):=hs;have HM:Hid (Sl _ _ _):=hm;have HW:Hid (Wh.Sl _ _ _):=hw;have HCQ:Hid (∀W,Calls _ _ _ _ _):=λW=>Du q W hq;have HCT:Hid (∀W,Calls _ _ _ _ _):=λW=>A8 t W;have yt:Hid (∀W,Sv.Sl W (sh ps ns cs) sv->Sl W (sh pm nm cm) ms->Wh.Sl W (sh pw nw cw) wh->Calls _ _ _ _ _):=λW a1 a2 a3=>B5 here ps pm pw ns cs nm cm nw cw px py pz ph pq sv ms wh W hh a1 a2 a3;have HCP:Hid (∀W,Calls _ _ _ _ _):=λW=>yF q W hq;have HKO:Hid (Ab here sv ms ⟨px,py,pz,ph,pq⟩ wh=0->B4 here sv ms ⟨px,py,pz,ph,pq⟩ wh):=ahM;have sr:Hid (pt q≠0->Ru q t here sv ms ⟨px,py,pz,ph,pq⟩ wh=⟨[],0,pt q⟩):=λh=>by unfold Ru asE;rw[if_neg h,if_neg h]
 have te:Hid (pt q=0->qS t=false->Ru q t here sv ms ⟨px,py,pz,ph,pq⟩ wh=⟨[],0,7⟩):=λh h2=>by unfold Ru asE;rw[if_pos h,h2];rfl
 have Rl:Hid (pt q=0->qS t=true->Ab here sv ms ⟨px,py,pz,ph,pq⟩ wh≠0->Ru q t here sv ms ⟨px,py,pz,ph,pq⟩ wh=⟨[],0,Ab here sv ms ⟨px,py,pz,ph,pq⟩ wh⟩):=λh h2 h3=>by unfold Ru asE;rw[if_pos h,if_pos h2,if_pos rfl,if_neg h3]
 have HR4:Hid (pt q=0->qS t=true->Ab here sv ms ⟨px,py,pz,ph,pq⟩ wh=0->Ru q t here sv ms ⟨px,py,pz,ph,pq⟩ wh=uY q t here sv ms ⟨px,py,pz,ph,pq⟩ wh):=λh h2 h3=>by unfold Ru asE;rw[if_pos h,if_pos h2,if_pos rfl,if_pos h3]
 have HS0:Hid (rH q≠0->uY q t here sv ms ⟨px,py,pz,ph,pq⟩ wh=⟨[],0,rH q⟩):=λh=>by unfold uY;rw[if_neg h]
 have VR:Hid (rH q=0->q.mM.size≠0->q.mM≠here->uY q t here sv ms ⟨px,py,pz,ph,pq⟩ wh=⟨[],3,0⟩):=λh h1 h2=>by unfold uY;rw[if_pos h,if_pos ⟨h1,h2⟩]
 have Bv:Hid (rH q=0->¬ (q.mM.size≠0/\q.mM≠here)->q.node.size≠0->uY q t here sv ms ⟨px,py,pz,ph,pq⟩ wh=uX q t ms):=λh h1 h2=>by unfold uY;rw[if_pos h,if_neg h1,if_pos h2]
 have HS3:Hid (rH q=0->¬ (q.mM.size≠0/\q.mM≠here)->q.node.size=0->uY q t here sv ms ⟨px,py,pz,ph,pq⟩ wh=ub q t here sv ms ⟨px,py,pz,ph,pq⟩ wh):=λh h1 h2=>by unfold uY;rw[if_pos h,if_neg h1,if_neg (by omega)]
 clear hs hm hw;generalize hAA:Ru q t here sv ms ⟨px,py,pz,ph,pq⟩ wh=A at *;clear hAA;obtain⟨qs,qt,qn,qc⟩:=q;simp only at *;have My:Hid (tN ⟨qs,qt,qn,qc⟩=tN ⟨qs,qt,qn,qc⟩):=rfl;generalize hQQ:(⟨qs,qt,qn,qc⟩:Qu)=QQ at *;have HQQ:Hid _:=hQQ;clear hQQ My hq;generalize hce:pt QQ=ce at *;generalize hke:Ab here sv ms ⟨px,py,pz,ph,pq⟩ wh=ke at *;generalize Ew:rH QQ=pe at *;clear hce hke Ew;go_enter func48,ntmps48;go_wp2_with fail;obtain⟨X,hX⟩:∃X,X=(w.alloc (Ib #[I qs,I qt,I qn,I qc] 67)).alloc (Ib #[O J px,O J py,O J pz,O J ph,O J pq] 27):=⟨_,rfl⟩;rw[<- hX];have vh:Hid (Below w.heap.size w X):=by rw[hX];exact((If _ _).alloc (By _) _).alloc (by simp) _
 have HGQ:Hid (X.heap[w.heap.size]?=AI (Ib #[I qs,I qt,I qn,I qc] 67 (0,0))):=by rw[hX,Iv _ _ _ (by simp)];exact Ii w _
 have Ch:X.heap[w.heap.size+1]?=AI (Ib #[O J px,O J py,O J pz,O J ph,O J pq] 27 (0,0)):=by
  rw[hX];have h:=Ii (w.alloc (Ib #[I qs,I qt,I qn,I qc] 67)) (Ib #[O J px,O J py,O J pz,O J ph,O J pq] 27);simpa using h
 have HGP:Hid _:=Ch;have hsX:w.heap.size+2<=X.heap.size:=by rw[hX];simp
 clear hX Ch;refine(HCQ.out X).mono ?_;rintro e w1 ⟨rfl,mO⟩;have sj:=mO.size;have mY:Hid _:=mO;have Hw:Hid _:=vh.out.trans (mO.mono (by omega));clear mO;by_cases h1:ce=0
 .have ap2:Hid _:=te.out h1
  have ap3:Hid _:=Rl.out h1;have ap4:Hid _:=HR4.out h1;clear sr te Rl HR4;subst h1;generalize qS t=tb at *;go_wp2_with fail;refine(HCT.out _).mono ?_;rintro e w2 ⟨rfl,rfl⟩;cases tb
  .have HR:Hid _:=ap2.out rfl
   go_wp2_with fail;go_ret3
   exact⟨sh U 0 0,by rw[HR.out];rfl,by rw[HR.out];exact Rc.nh _ _,Hw.out⟩
  .have ajt:Hid _:=ap3.out rfl
   have aju:Hid _:=ap4.out rfl;clear ap2 ap3 ap4;have xv:=(mY.out.block _ (by omega)).trans HGQ.out;have yu:=(mY.out.block _ (by omega)).trans HGP.out;have q0:=fi xv 0;have q1:=fi xv 1;have q2:=fi xv 2;have q3:=fi xv 3;have p0:=fi yu 0;have p1:=fi yu 1;have p2:=fi yu 2;have p3:=fi yu 3;have p4:=fi yu 4;clear xv yu;go_wp2_with fail;refine(yt.out _ (HS.out.below Hw.out) (HM.out.below Hw.out) (HW.out.below Hw.out)).mono ?_;rintro e w3 ⟨rfl,nC⟩;have V0:=nC.size;have oT:Hid _:=mY.out.trans (nC.mono sj);have HW3:Hid _:=Hw.out.trans (nC.mono (by omega));clear nC;clear q0 q1 q2 q3 p0 p1 p2 p3 p4;by_cases h3:ke=0
   .have HR:Hid _:=aju.out h3
    have HK:Hid _:=HKO.out h3;clear ajt aju HKO;subst h3;have xv:=(oT.out.block _ (by omega)).trans HGQ.out;have yu:=(oT.out.block _ (by omega)).trans HGP.out;have q0:=fi xv 0;have q1:=fi xv 1;have q2:=fi xv 2;have q3:=fi xv 3;have p0:=fi yu 0;have p1:=fi yu 1;have p2:=fi yu 2;have p3:=fi yu 3;have p4:=fi yu 4;clear xv yu;go_wp2_with fail;refine Calls.mono (HCP.out w3) ?_;rintro e w4 ⟨rfl,qA⟩;have Lh:=qA.size;have qP:Hid _:=oT.out.trans (qA.mono (by omega));have HW4:Hid _:=HW3.out.trans (qA.mono (by omega));clear qA;clear q0 q1 q2 q3 p0 p1 p2 p3 p4;by_cases h4:pe=0
    .have ap5:Hid (qc.size≠0->qc≠here->uY QQ t here sv ms ⟨px,py,pz,ph,pq⟩ wh=⟨[],3,0⟩):=by rw[<- HQQ.out] at VR ⊢;exact VR.out h4
     have ap6:Hid (¬ (qc.size≠0/\qc≠here)->qn.size≠0->uY QQ t here sv ms ⟨px,py,pz,ph,pq⟩ wh=uX QQ t ms):=by rw[<- HQQ.out] at Bv ⊢;exact Bv.out h4
     have ap7:Hid (¬ (qc.size≠0/\qc≠here)->qn.size=0->uY QQ t here sv ms ⟨px,py,pz,ph,pq⟩ wh=ub QQ t here sv ms ⟨px,py,pz,ph,pq⟩ wh):=by rw[<- HQQ.out] at HS3 ⊢;exact HS3.out h4
     clear HS0 VR Bv HS3;subst h4;have xv:=(qP.out.block _ (by omega)).trans HGQ.out;have yu:=(qP.out.block _ (by omega)).trans HGP.out;have q0:=fi xv 0;have q1:=fi xv 1;have q2:=fi xv 2;have q3:=fi xv 3;have p0:=fi yu 0;have p1:=fi yu 1;have p2:=fi yu 2;have p3:=fi yu 3;have p4:=fi yu 4;clear xv yu;generalize Lv:tN QQ=name at *;have My:Hid _:=Lv;clear Lv;by_cases hc:qc.size≠0/\qc≠here
     .have te:Hid _:=HR.out.trans (ap5.out hc.1 hc.2)
      obtain⟨e1,e2⟩:=oC hc.1;obtain⟨e3,e4⟩:=o0 hc.2;clear hc;go_wp2_with fail;go_ret3
      exact⟨sh U 0 0,by rw[te.out];rfl,by rw[te.out];exact Rc.nh _ _,HW4.out⟩
     .have hcc:((qc.toList==[])=true/\qc.toList=[])\/((qc.toList==[])=false/\¬ qc.toList=[]/\(qc.toList==here.toList)=true/\qc.toList=here.toList):=by
       by_cases h:qc.size=0
       .have e:=nB h
        have h2:qc.toList=[]:=by rw[e,IZ]
        exact .inl ⟨by rw[h2];rfl,h2⟩
       .have e:qc=here:=by
         by_cases e:qc=here
         .exact e
         .exact absurd ⟨h,e⟩ hc
        exact .inr ⟨(oC h).1,(oC h).2,by rw[e];simp,by rw[e]⟩
      have aeC:Hid _:=ap6.out hc;have aeD:Hid _:=ap7.out hc;clear ap5 ap6 ap7 hc;by_cases LU:qn.size=0
      .have te:Hid _:=HR.out.trans (aeD.out LU)
       have g4:qn.toList=[]:=by rw[nB LU,IZ]
       have g3:(qn.toList==[])=true:=by rw[g4];rfl
       clear g4 aeC aeD LU;have DA:=(Sv.mU HK.out.sv).1;have zy:Hid (∀W,Sv.Sl W (sh ps ns cs) sv->Calls _ _ _ _ _):=λW h=>Sv.Dt sv _ qs qt W h DA;have HF0:Hid (∀W,Sv.Sl W (sh ps ns cs) sv->Calls _ _ _ _ _):=λW h=>Sv.Dt sv _ qs ⟨#[]⟩ W h DA;have uU:(Sv.nc sv qs qt).length<=40:=by have h1:=Sv.zA sv qs qt;omega
       have HFO:Hid (∀x∈Sv.nc sv qs qt,x.ok):=Sv.M8 (by obtain⟨_,_,_,h,_⟩:=HS.out;exact Sv.rA h);have HUP:Hid (qH (nf ms (Sv.nc sv qs qt))=nF (nf ms (Sv.nc sv qs qt))):=adt _ (ahY (ahX _ _ HK.out.sv));have HNR:Hid (si ⟨px,py,pz,ph,pq⟩ wh ms (Sv.nc sv qs qt)=(qp (GD ⟨px,py,pz,ph,pq⟩ wh (nF (nf ms (Sv.nc sv qs qt)))) (Sv.nc sv qs qt)).take 20):=Tb;have Mx:Hid (Sv.nc sv qs ⟨#[]⟩=[]->ub QQ t here sv ms ⟨px,py,pz,ph,pq⟩ wh=⟨[],3,0⟩):=λh=>by rw[<- HQQ.out];unfold ub;rw[if_pos h]
       have AB:Hid (Sv.nc sv qs ⟨#[]⟩≠[]->qJ here t (si ⟨px,py,pz,ph,pq⟩ wh ms (Sv.nc sv qs qt))=0->ub QQ t here sv ms ⟨px,py,pz,ph,pq⟩ wh=⟨(si ⟨px,py,pz,ph,pq⟩ wh ms (Sv.nc sv qs qt)).map (pG name here t),0,0⟩):=λh h2=>by rw[<- My.out,<- HQQ.out];unfold ub;rw[if_neg h,if_pos h2]
       have DG:Hid (Sv.nc sv qs ⟨#[]⟩≠[]->qJ here t (si ⟨px,py,pz,ph,pq⟩ wh ms (Sv.nc sv qs qt))≠0->ub QQ t here sv ms ⟨px,py,pz,ph,pq⟩ wh=⟨[],0,qJ here t (si ⟨px,py,pz,ph,pq⟩ wh ms (Sv.nc sv qs qt))⟩):=λh h2=>by rw[<- HQQ.out];unfold ub;rw[if_neg h,if_neg h2]
       have avZ:Hid (Sv.nc sv qs qt≠[]->Sv.nc sv qs ⟨#[]⟩≠[]):=aeB;obtain⟨hwl,ap8,ap9⟩:=HK.out.okP;have HSO:Hid (∀(vn:Value) W ns',ns'.length<=100->Wh.Sl W (sh pw nw cw) wh->Bi W vn ns'->Calls _ _ _ _ _):=λvn W ns' h1 h2 h3=>SP ⟨px,py,pz,ph,pq⟩ wh _ vn ns' W h2 h3 hwl h1 ap8 ap9;have av0:Hid (∀s∈nF (nf ms (Sv.nc sv qs qt)),s.size<=Il):=λs hs=>by
        obtain⟨x,hx,e⟩:=(ua _ s).1 hs;rw[<- e];exact(HFO.out x (JT.1 hx).1).1
       have hnl:(nF (nf ms (Sv.nc sv qs qt))).length<=100:=by have h1:=AZ (nf ms (Sv.nc sv qs qt));have h2:=xt ms (Sv.nc sv qs qt);omega
       have av1:(GD ⟨px,py,pz,ph,pq⟩ wh (nF (nf ms (Sv.nc sv qs qt)))).length<=100:=by rw[Wx];exact hnl
       clear ap8 ap9 hwl DA;generalize si ⟨px,py,pz,ph,pq⟩ wh ms (Sv.nc sv qs qt)=NL at *;generalize Sv.nc sv qs qt=FL at *;generalize Sv.nc sv qs ⟨#[]⟩=F0 at *;rcases hcc with⟨g1,-⟩|⟨g1,g2,g5,-⟩;all_goals
        go_wp2_with fail;refine Calls.mono (zy.out w4 (HS.out.below HW4.out)) ?_;rintro e w5 ⟨v5,rfl,ho5,sK⟩;obtain⟨pf,cf,rfl⟩:=yR ho5;have hs5:=sK.size;have qB:Hid _:=qP.out.trans (sK.mono (by omega));have HW5:Hid _:=HW4.out.trans (sK.mono (by omega));have HFX:Hid (Sv.Sl _ _ _):=Sv.o7 ho5 HFO.out;clear ho5 sK;clear q0 q1 q2 q3 p0 p1 p2 p3 p4;generalize M4:FL.length=n at *;have vj:Hid _:=M4;clear M4;go_upto_block 0 with fail
        refine al2 ms FL pm pf nm cm n cf w5 HK.out.ms uU HUP (HM.out.below HW5.out) HFX vj _ ?_;intro _ _ _ _ _ _ _ _ _ _ _ _ _ _ _ _ _ _ _ _ _ _ _ _ _ _ _ _ _ _ _ _ _ _ _ _ _ _ _ _ _ _ _ _ _ _ _ _ _ _ vn w6 ho6 sZ;have hs6:=sZ.out.size;have tq:Hid _:=qB.out.trans (sZ.out.mono (by omega));have HW6:Hid _:=HW5.out.trans (sZ.out.mono (by omega));have HF6:Hid (Sv.Sl _ _ _):=HFX.out.below sZ.out;have HTS:Hid (Bi _ _ _):=Pd ho6.out av0.out;clear ho6 sZ;have xv:=(tq.out.block _ (by omega)).trans HGQ.out;have yu:=(tq.out.block _ (by omega)).trans HGP.out;have q0:=fi xv 0;have q1:=fi xv 1;have q2:=fi xv 2;have q3:=fi xv 3;have p0:=fi yu 0;have p1:=fi yu 1;have p2:=fi yu 2;have p3:w6.cell? ⟨w.heap.size+1,3,U⟩=AI (O J ph):=fi yu 3;have p4:w6.cell? ⟨w.heap.size+1,4,U⟩=AI (O J pq):=fi yu 4;clear xv yu;go_wp2_with fail;refine Calls.mono (HSO.out vn w6 (nF (nf ms FL)) hnl (HW.out.below HW6.out) HTS.out) ?_;rintro e Y ⟨v7,rfl,Rr,Bj⟩;have hs7:=Bj.size;have HTY:Hid (Bi Y v7 (GD ⟨px,py,pz,ph,pq⟩ wh (nF (nf ms FL)))):=Rr;obtain⟨pn,cn,hv7,-,-⟩:=Rr;subst hv7;have SO:Hid (Below X.heap.size X Y):=tq.out.trans (Bj.mono (by omega));have HW7:Hid (Below w.heap.size w Y):=HW6.out.trans (Bj.mono (by omega));have HF7:Hid (Sv.Sl Y (sh pf n cf) FL):=HF6.out.below Bj;clear Bj HF6 HTS;clear q0 q1 q2 q3 p0 p1 p2 p3 p4;generalize hsr:GD ⟨px,py,pz,ph,pq⟩ wh (nF (nf ms FL))=SL at *;have HSR:Hid (NL=(qp SL FL).take 20):=HNR;clear hsr;generalize yr:SL.length=m at *;have Rs:Hid (SL.length=m):=yr;clear yr;go_upto_block 2 with fail
        refine al3 name here t FL NL SL pf pn n cf m cn Y hh uU av1 HSR HF7 HTY vj Rs _ ?hN ?hE
        case hE=>
         intro a W al4 hz nK hb;have HA:A=⟨[],0,qJ here t NL⟩:=te.out.trans (DG.out (avZ.out nK) hz);exact aaF (v:=sh U 0 0) (by rw[HA];exact al4) (by rw[HA];exact Rc.nh _ _) (HW7.out.trans (hb.mono (by omega)))
        case hN=>
         intro _ _ _ _ _ _ _ _ _ _ _ _ _ _ _ _ _ _ _ _ _ _ _ _ _ _ _ _ _ _ _ _ _ _ _ _ _ _ _ _ _ _ _ _ _ _ _ _ _ _ _ _ _ _ _ _ _ _ _ _ _ _ _ _ _ _ _ _ _ _ _ _ _ _ _ _ _ _ _ _ vo w8 ho8 hz8 Dl;have hs8:=Dl.out.size;have HB8:Hid (Below X.heap.size X w8):=SO.out.trans (Dl.out.mono (by omega));have HW8:Hid (Below w.heap.size w w8):=HW7.out.trans (Dl.out.mono (by omega));have HO8:Hid (Rc.Own w.heap.size w8 vo (NL.map (pG name here t))):=ho8.out.mono (by omega);clear ho8 Dl;have xv:w8.heap[w.heap.size]?=AI (Ib #[I qs,I qt,I qn,I qc] 67 (0,0)):=(HB8.out.block _ (by omega)).trans HGQ.out;have yu:w8.heap[w.heap.size+1]?=AI (Ib #[O J px,O J py,O J pz,O J ph,O J pq] 27 (0,0)):=(HB8.out.block _ (by omega)).trans HGP.out;have q0:w8.cell? ⟨w.heap.size,0,U⟩=AI (I qs):=fi xv 0;have q1:w8.cell? ⟨w.heap.size,1,U⟩=AI (I qt):=fi xv 1;have q2:w8.cell? ⟨w.heap.size,2,U⟩=AI (I qn):=fi xv 2;have q3:w8.cell? ⟨w.heap.size,3,U⟩=AI (I qc):=fi xv 3;have p0:w8.cell? ⟨w.heap.size+1,0,U⟩=AI (O J px):=fi yu 0;have p1:w8.cell? ⟨w.heap.size+1,1,U⟩=AI (O J py):=fi yu 1;have p2:w8.cell? ⟨w.heap.size+1,2,U⟩=AI (O J pz):=fi yu 2;have p3:w8.cell? ⟨w.heap.size+1,3,U⟩=AI (O J ph):=fi yu 3;have p4:w8.cell? ⟨w.heap.size+1,4,U⟩=AI (O J pq):=fi yu 4;clear xv yu;go_wp2_with fail;refine Calls.mono (HF0.out w8 (HS.out.below HW8.out)) ?_;rintro e w9 ⟨v9,rfl,ho9,tv⟩;obtain⟨p9,c9,rfl⟩:=yR ho9;have HW9:Hid (Below w.heap.size w w9):=HW8.out.trans (tv.mono (by omega));have HO9:Hid (Rc.Own w.heap.size w9 vo (NL.map (pG name here t))):=HO8.out.below tv;clear ho9 tv HO8;by_cases he:F0=[]
         .have HA:Hid (A=⟨[],3,0⟩):=te.out.trans (Mx.out he)
          have h00:F0.length=0:=by rw[he];rfl
          clear he;generalize F0.length=n0 at *;subst h00;go_wp2_with fail;go_ret3
          exact⟨sh U 0 0,by rw[HA.out];rfl,by rw[HA.out];exact Rc.nh _ _,HW9.out⟩
         .have HA:Hid (A=⟨NL.map (pG name here t),0,0⟩):=te.out.trans (AB.out he hz8.out)
          have h00:(((F0.length:Nat):Int)==0)=false:=by
           have:F0.length≠0:=λh=>he (I5 h)
           simpa using this
          clear he;generalize F0.length=n0 at *;go_wp2_with fail;go_ret3
          exact⟨vo,by rw[HA.out];rfl,by rw[HA.out];exact HO9.out,HW9.out⟩
      .have te:Hid _:=HR.out.trans (aeC.out LU)
       obtain⟨g3,g4⟩:=oC LU;clear aeC aeD LU;have zK:ms.length<=1000:=by have:=(mU HK.out.ms).1;omega
       have vu:Hid (∀W,Sl W (sh pm nm cm) ms->Calls AT 18 #[sh pm nm cm,I qn] W λe w'=>∃r:Int,e=Ia (O J r)/\Hid (AtF ms qn r)/\w'=W):=λW h=>CS ms _ _ W h zK;have GW:Hid (oX ms qn=U->A=⟨[],3,0⟩):=λh=>by rw[te.out,<- HQQ.out];unfold uX;rw[if_neg];show ¬ ((qO ms qn).state=1\/(qO ms qn).state=2);rw[zG h];decide
       have N8:Hid (∀j,j<ms.length->oX ms qn=AI (ms.getD j dm)->2<(ms.getD j dm).state->A=⟨[],3,0⟩):=λj hj h h2=>by rw[te.out,<- HQQ.out];unfold uX;rw[if_neg];show ¬ ((qO ms qn).state=1\/(qO ms qn).state=2);rw[uc h];omega
       have HN5:Hid (∀j,j<ms.length->oX ms qn=AI (ms.getD j dm)->¬ 2<(ms.getD j dm).state->t≠1->A=⟨[],0,0⟩):=λj hj h h2 h3=>by
        have h4:=FT HK.out.ms hj;rw[te.out,<- HQQ.out];unfold uX;rw[if_pos,if_neg h3];show(qO ms qn).state=1\/(qO ms qn).state=2;rw[uc h];omega
       have M3:Hid (∀j,j<ms.length->oX ms qn=AI (ms.getD j dm)->¬ 2<(ms.getD j dm).state->t=1->A=⟨[⟨name,1,0,(ms.getD j dm).addr,⟨#[]⟩,0,⟨#[]⟩⟩],0,0⟩):=λj hj h h2 h3=>by
        have h4:=FT HK.out.ms hj;rw[te.out,<- My.out,<- HQQ.out];unfold uX;rw[if_pos,if_pos h3]
        .show(⟨[⟨_,1,0,(qO ms qn).addr,_,0,_⟩],0,0⟩:Ans)=_;rw[uc h]
        .show(qO ms qn).state=1\/(qO ms qn).state=2;rw[uc h];omega
       obtain⟨_,_,hme,-,hma⟩:=(HM.out.below HW4.out);simp only[IM] at hme;obtain⟨rfl,hmn,rfl⟩:=hme;have KA:Hid _:=hmn;have HMA:Hid _:=hma;have HM4:Hid (Sl _ _ _):=HM.out.below HW4.out;clear hma hmn zK;rcases hcc with⟨g1,-⟩|⟨g1,g2,g5,-⟩;all_goals
        go_wp2_with fail;refine Calls.mono (vu.out w4 HM4.out) ?_;rintro e w5 ⟨r,rfl,qi,DV⟩;subst DV;rcases qi.out with⟨j,hj,rfl,hfj⟩|⟨rfl,hfj⟩
        .obtain⟨bm,om,SR,oR,Bk⟩:∃b off,pm=AI ⟨b,off,U⟩/\b<w5.heap.size/\Row w5 b off ms:=by
          rcases HMA.out with h|h
          .rw[h] at hj;simp at hj
          .exact h
         subst SR;obtain⟨-,m1,-,m3,-⟩:=Bk j hj;have Xg:j<nm:=by rw[KA.out];exact hj
         have hj0:(0:Int)<=(j:Int):=OM _;have hj1:(j:Int)<(nm:Int):=by omega
         have av2:Hid _:=N8.out j hj hfj;have av3:Hid _:=HN5.out j hj hfj;have av4:Hid _:=M3.out j hj hfj;clear Bk hfj qi HMA hj GW N8 HN5 M3;generalize(ms.getD j dm).state=st at *;generalize(ms.getD j dm).addr=ad at *;by_cases GB:2<st
         .have HA:Hid _:=av2.out GB
          exact LY
         .by_cases ht:t=1
          .have HA:Hid _:=av4.out (by omega) ht
           have ht':(t !=1)=false:=by simpa using ht
           clear ht;go_wp2_with fail;go_ret3
           refine⟨_,by rw[HA.out];rfl,?_,HW4.out.alloc (by omega) _⟩;rw[HA.out];refine Rc.EO (G:=1) (cur:=#[I name,O J 1,O J 0,O J ad,I ⟨#[]⟩,O J 0,I ⟨#[]⟩]) ?_ (Ii _ _) rfl (By _) (by decide) rfl;omega
          .have HA:Hid _:=av3.out (by omega) ht
           have ht':(t !=1)=true:=by simpa using ht
           exact LY
        .have HA:Hid _:=GW.out hfj
         clear hfj qi GW N8 HN5 M3;exact LY
    .have te:Hid _:=HR.out.trans (HS0.out h4)
     have h4':(pe !=0)=true:=by simpa using h4
     go_wp2_with fail;go_ret3
     exact⟨sh U 0 0,by rw[te.out];rfl,by rw[te.out];exact Rc.nh _ _,HW4.out⟩
   .have HR:Hid _:=ajt.out h3
    have h3':(ke !=0)=true:=by simpa using h3
    go_wp2_with fail;go_ret3
    exact⟨sh U 0 0,by rw[HR.out];rfl,by rw[HR.out];exact Rc.nh _ _,HW3.out⟩
 .have HR:Hid _:=sr.out h1
  have RI:(ce==0)=false:=by simpa using h1
  have aD3:(ce !=0)=true:=by simpa using h1
  go_wp2_with fail;go_ret3
  exact⟨sh U 0 0,by rw[HR.out];rfl,by rw[HR.out];exact Rc.nh _ _,Hw.out⟩
end Go.Proofs.YtipbebleapjcjaaGreatDoor
