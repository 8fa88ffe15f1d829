import Derived.Test.YtfidjlcdlakceaaGreatDoorrt23
import Derived.Test.YtfidjlcdlakceaaGreatDoorrt22
import Derived.Test.YtfidjlcdlakceaaGreatDoorrt24
import Derived.Deep.RegionLawGrows
set_option maxHeartbeats 12800000
set_option maxRecDepth 100000
open List renaming length_take_le→Oj,mem_of_mem_take→JV,mem_flatMap→ON,mem_filter→Ox,filter_append→JL,take_succ_eq_append_getElem→Iw,getD→Io,getElem?_eq_getElem→Ic,eq_nil_of_length_eq_zero→IX,length_filter_le→Ow,length_append→Ij,length_take→IA,length_eq_zero_iff→O6,take_of_length_le→IW,getD_cons_succ→Jv
open Option renaming some→Z,none→Y
open Go.Value renaming slice→U,string→I,agg→Ip,int→O,bool→AT,tuple→Il
open Go.Proofs.Tryz renaming prog→be,underlying9→Iv,underlying24→OI,results195→Ua
open Go renaming maxLen→Ii,heap_alloc_new→Ie,step_append_lies→Qz,bodyPost_ret→Iy
open Go.Instr renaming lookup→J5
open Option.some renaming injEq→JA,inj→Oc
open Go.World.ownsRow renaming lt→IY,kept→QC,cellAt→OV,alloc→J6
open Go.IntKind renaming i64→J
open ByteArray renaming empty→If,mk→O5
open Array renaming getElem?_eq_some_iff→Ib
open Go.Ending renaming returned→sh
open Go.Obj renaming cells→AI
open Go.RowKit.Below renaming refl→Ia,heap_alloc→It
open Nat renaming le_refl→By,zero_le→IF
open Go.World renaming block_lt_of_cell?→IE,news_of_block→Ol,frozen?→Ih
namespace Go.Proofs.YtfidjlcdlakceaaGreatDoor
open Go.RowKit
def Lt(acc:List ByteArray)(n:ByteArray):List ByteArray:=if acc.any (λy=>decide (y=n))=true then acc else acc++[n]
theorem CQ{acc:List ByteArray}{n:ByteArray}:acc.any (λy=>decide (y=n))=true↔n∈acc:=by simp
theorem wQ{acc:List ByteArray}{n:ByteArray}(h:n∈acc):Lt acc n=acc:=if_pos (CQ.2 h)
theorem sR{acc:List ByteArray}{n:ByteArray}(h:n ∉ acc):Lt acc n=acc++[n]:=if_neg (λh2=>h (CQ.1 h2))
def bO(L:List Sv.ba):List ByteArray:=L.foldl (λacc s=>Lt acc s.node) []
theorem jf(L:List Sv.ba)(s:Sv.ba):bO (L++[s])=Lt (bO L) s.node:=by simp[bO,List.foldl_append]
theorem yH{α:Type}{p:List α->Prop}(h0:p [])(h1:∀l x,p l->p (l++[x]))(l:List α):p l:=by
 have h:∀r:List α,p r.reverse:=by
  intro r;induction r with
  |nil=>exact h0
  |cons a r ih=>rw[List.reverse_cons];exact h1 _ _ ih
 have:=h l.reverse
 rwa [List.reverse_reverse] at this
theorem Lu{acc:List ByteArray}{n x:ByteArray}:x∈Lt acc n↔x∈acc\/x=n:=by
 by_cases h:n∈acc
 .rw[wQ h]
  exact⟨.inl,λh2=>h2.elim id (λe=>e▸h)⟩
 .rw[sR h];simp
theorem nz(L:List Sv.ba):∀x,x∈bO L↔∃s∈L,s.node=x:=by
 refine yH (p:=λL=>∀x,x∈bO L↔∃s∈L,s.node=x) (by simp[bO]) (λl s ih x=>?_) L;rw[jf,Lu,ih x];constructor
 .rintro(⟨y,hy,e⟩|rfl)
  .exact⟨y,List.mem_append_left _ hy,e⟩
  .exact⟨s,by simp,rfl⟩
 .rintro⟨y,hy,e⟩
  rcases List.mem_append.1 hy with h|h
  .exact .inl ⟨y,h,e⟩
  .simp at h;subst h;exact .inr e.symm
theorem sS(L:List Sv.ba):(bO L).length<=L.length:=by
 refine yH (p:=λL=>(bO L).length<=L.length) (by simp[bO]) (λl s ih=>?_) L;rw[jf];by_cases hm:s.node∈bO l
 .rw[wQ hm];simp;omega
 .rw[sR hm];simp;omega
def bP(ms:List Mem)(L:List Sv.ba):List Sv.ba:=L.filter λs => !yr ms s.node
def jA(L:List Sv.ba)(n:ByteArray):List Sv.ba:=L.filter λs=>decide (s.node=n)
def fQ(ns:List ByteArray)(L:List Sv.ba):List Sv.ba:=ns.flatMap (jA L)
def iL(p:Pl)(wh:List Wh.cd)(ms:List Mem)(found:List Sv.ba):List Sv.ba:=(fQ (GR p wh (bO (bP ms found))) (bP ms found)).take 20
theorem PG{p:Pl}{wh:List Wh.cd}{ns:List ByteArray}{x:ByteArray}:x∈GR p wh ns↔x∈ns:=by
 unfold GR;have h:=(So.mm (EX (dV (Dd (iv p) wh wh.length))) ns ns.length).2;rw[List.take_length] at h;exact h.mem_iff
def qN(n here:ByteArray):Qu:=⟨⟨#[]⟩,⟨#[]⟩,n,here⟩
def iM(name here:ByteArray)(t:Int)(s:Sv.ba):Rc.Rec:=
 ⟨name,t,0,if t=1 then s.addr else 0,if t=16 then s.cF else⟨#[]⟩,if t=33 then s.port else 0,if t=33 then kK (qN s.node here) else⟨#[]⟩⟩
def gR(here:ByteArray)(t:Int)(s:Sv.ba):Int:=if t=33 then iY (qN s.node here) else 0
def gS(here:ByteArray)(t:Int):List Sv.ba->Int
 |[]=>0
 |s::r=>if gR here t s=0 then gS here t r else gR here t s
theorem vE{here:ByteArray}{t:Int}:∀{L:List Sv.ba},(∀j,j<L.length->gR here t (L.getD j Sv.dm)=0)->gS here t L=0
 |[],_=>rfl
 |s::r,h=>by
  have h0:=h 0 (by simp);simp at h0;rw[gS,if_pos h0];exact vE λj hj=>by have:=h (j+1) (by simpa using hj);simpa using this
theorem yI{here:ByteArray}{t:Int}:∀{L:List Sv.ba} {k:Nat},k<L.length->(∀j,j<k->gR here t (L.getD j Sv.dm)=0)->gR here t (L.getD k Sv.dm)≠0->gS here t L=gR here t (L.getD k Sv.dm)
 |[],k,hk,_,_=>by simp at hk
 |s::r,0,_,_,h=>by
  simp at h;rw[gS,if_neg h];simp
 |s::r,k+1,hk,h,h2=>by
  have h0:=h 0 (by simp);simp at h0;rw[gS,if_pos h0];have:=yI (L:=r) (k:=k) (by simpa using hk) (λj hj=>by have:=h (j+1) (by omega);simpa using this) (by simpa using h2);simpa using this
structure Ans where
 rs:List Rc.Rec
 code:Int
 e:Int
def kj(q:Qu)(t:Int)(here:ByteArray)(sv:List Sv.ba)(ms:List Mem)(p:Pl)(wh:List Wh.cd):Ans:=
 if Sv.cy sv q.service ⟨#[]⟩=[] then⟨[],3,0⟩
 else if gS here t (iL p wh ms (Sv.cy sv q.service q.tag))=0 then⟨(iL p wh ms (Sv.cy sv q.service q.tag)).map (iM (kK q) here t),0,0⟩
 else⟨[],0,gS here t (iL p wh ms (Sv.cy sv q.service q.tag))⟩
def jO(q:Qu)(t:Int)(ms:List Mem):Ans:=
 if(dZ ms q.node).state=1\/(dZ ms q.node).state=2 then(if t=1 then⟨[⟨kK q,1,0,(dZ ms q.node).addr,⟨#[]⟩,0,⟨#[]⟩⟩],0,0⟩ else⟨[],0,0⟩) else⟨[],3,0⟩
def oo(q:Qu)(t:Int)(here:ByteArray)(sv:List Sv.ba)(ms:List Mem)(p:Pl)(wh:List Wh.cd):Ans:=
 if iY q=0 then(if q.ai.size≠0/\q.ai≠here then⟨[],3,0⟩ else if q.node.size≠0 then jO q t ms else kj q t here sv ms p wh) else⟨[],0,iY q⟩
def yJ(p:Pl)(wh:List Wh.cd):Int:=if 20<wh.length then 2 else gN (p::(dD wh).map dz)
def Bn(here:ByteArray)(sv:List Sv.ba)(ms:List Mem)(p:Pl)(wh:List Wh.cd):Int:=
 if aA here=true then(if Sv.aM sv=0 then(if aM ms=0 then yJ p wh else aM ms) else Sv.aM sv) else 1
theorem yK(p:Pl)(wh:List Wh.cd)(ms:List Mem)(L:List Sv.ba):(iL p wh ms L).length<=20:=by unfold iL;exact Oj _ _
theorem Lv{p:Pl}{wh:List Wh.cd}{ms:List Mem}{L:List Sv.ba}{s:Sv.ba}(h:s∈iL p wh ms L):s∈L/\yr ms s.node=false:=by
 unfold iL fQ at h;have h1:=JV h;obtain⟨n,_,h2⟩:=ON.1 h1;have h3:=(Ox.1 h2).1;have h4:=Ox.1 h3;exact⟨h4.1,by simpa using h4.2⟩
end Go.Proofs.YtfidjlcdlakceaaGreatDoor
namespace Go.Proofs.YtfidjlcdlakceaaGreatDoor
open Go.RowKit Go.WideMaps Go.Maps
def Lw(v:Value):Option (DataW Value×List MemPlace):=Z (.held v,[])
def eF(w:World)(b n:Nat)(M:ByteArray->Value):Prop:=∃D:DataW Value,w.ownsMap be 9 Lw b n D/\∀s,D.atKey (kS s) (.held (U Y 0 0))=.held (M s)
def Ff(M:ByteArray->Value)(s:ByteArray)(v:Value):ByteArray->Value:=λx=>if x=s then v else M x
theorem jP(M:ByteArray->Value)(s:ByteArray)(v:Value):Ff M s v s=v:=if_pos rfl
theorem fy(M:ByteArray->Value){s x:ByteArray}(v:Value)(h:x≠s):Ff M s v x=M x:=if_neg h
theorem Sy:Keyed be 9:=string_keyed Iv
theorem VF(w:World):(zeroValue 24).run be w=.ok (U Y 0 0) w:=by kernel_rfl
theorem Bo(w:World):eF (w.alloc (.map #[] 0)) w.heap.size 0 (λ_=>.slice Y 0 0):=⟨.map [],World.ownsMap_made w be 9 Lw,λs=>by simp[DataW.atKey]⟩
theorem eF.kept{w w':World}{b n:Nat}{M:ByteArray->Value}{row:Option Nat}(h:eF w b n M)(hg:w.grownBy w' row)(bE:Z b≠row):eF w' b n M:=by
 obtain⟨D,h1,h2⟩:=h;exact⟨D,h1.kept hg bE,h2⟩
theorem eF.lt{w:World}{b n:Nat}{M:ByteArray->Value}(h:eF w b n M):b<w.heap.size:=by
 obtain⟨D,h1,h2⟩:=h;exact h1.lt
theorem eF.below{w w':World}{b n:Nat}{M:ByteArray->Value}(h:eF w b n M)(hb:Below w.heap.size w w'):eF w' b n M:=by
 have hl:=h.lt;obtain⟨D,⟨es,clock,h1,h3⟩,h2⟩:=h;exact⟨D,⟨es,clock,(hb.block b hl).trans h1,h3⟩,h2⟩
theorem eF.look{w:World}{b n:Nat}{M:ByteArray->Value}(h:eF w b n M){s:ByteArray}(hs:s.size<=Ii):(J5 279 (.map (Z b)) (I s) false).run be w=.ok (M s) w:=by
 obtain⟨D,h1,h2⟩:=h;obtain⟨v,ps,gO,hv⟩:=h1.lookup Sy Tryz.underlying279 (VF w) (show Lw (U Y 0 0)=Z (.held (U Y 0 0),[]) from rfl) (keyOf_string_mk Iv hs);have e:v=M s:=by
  have h3:(DataW.held v:DataW Value)=D.atKey (kS s) (.held (U Y 0 0)):=by
   simp only[Lw,JA,Prod.mk.injEq] at hv;exact hv.1
  rw[h2 s] at h3;injection h3
 rw[gO,e]
theorem eF.put{w:World}{b n:Nat}{M:ByteArray->Value}(h:eF w b n M)(hn:n<Ii){s:ByteArray}(hs:s.size<=Ii)(v:Value):∃w',(Instr.mapUpdate 279 (.map (Z b)) (I s) v).run be w=.ok () w'/\eF w' b (n+1) (Ff M s v)/\w.grownBy w' (Z b):=by
 obtain⟨D,h1,h2⟩:=h;obtain⟨w',gO,ho,hg⟩:=h1.update Sy Tryz.underlying279 hn (keyOf_string_mk Iv hs) (show Lw v=Z (.held v,[]) from rfl);refine⟨w',gO,⟨_,ho,λx=>?_⟩,hg⟩;by_cases e:x=s
 .subst e
  rw[jP];exact atKey_put_same h1.isMap (lC _) _ _
 .rw[fy M v e]
  exact(atKey_put_other (vq e) _ _).trans (h2 x)
structure qX(B:Nat)(w:World)(mb n:Nat)(vn:Value)(M:ByteArray->Value)(ns:List ByteArray)(L:List Sv.ba):Prop where
 map:eF w mb n M
 nodes:df B w vn ns
 rows:∀s,Sv.Own B w (M s) (jA L s)
 apart:∀s t,s≠t->(M s).ownBlock=Y\/(M s).ownBlock≠(M t).ownBlock
 off:∀s,(M s).ownBlock=Y\/(M s).ownBlock≠vn.ownBlock
 base:mb<B
theorem Lx(w:World):qX (w.heap.size+1) (w.alloc (.map #[] 0)) w.heap.size 0 (U Y 0 0) (λ_=>.slice Y 0 0) [] []:=
 ⟨Bo w,World.ownsRow_nil _ _ _ _,λ_=>Sv.bz _ _,λ_ _ _=>.inl rfl,λ_=>.inl rfl,Nat.lt_succ_self _⟩
theorem qX.below{B:Nat}{w w':World}{mb n:Nat}{vn:Value}{M:ByteArray->Value}{ns:List ByteArray}{L:List Sv.ba}(h:qX B w mb n vn M ns L)(hb:Below w.heap.size w w'):qX B w' mb n vn M ns L:=
 ⟨h.map.below hb,df.below h.nodes hb,λs=>(h.rows s).below hb,h.apart,h.off,h.base⟩
theorem qX.more{B:Nat}{w:World}{mb n n':Nat}{vn:Value}{M:ByteArray->Value}{ns:List ByteArray}{L:List Sv.ba}(h:qX B w mb n vn M ns L)(hn:n<=n'):qX B w mb n' vn M ns L:=by
 obtain⟨⟨D,h1,h2⟩,h3,h4,h5,h6,h7⟩:=h;exact⟨⟨D,h1.mono hn,h2⟩,h3,h4,h5,h6,h7⟩
theorem jQ{B mb:Nat}{w:World}{v:Value}{t:TypeId}{k n:Nat}{xs:List Value}(h:w.ownsRow B t k v n xs)(hb:mb<B):v.ownBlock=Y\/v.ownBlock≠Z mb:=by
 cases e:v.ownBlock with
 |none=>exact .inl rfl
 |some g=>exact .inr (λe2=>by have:=(IY h g e).1;cases e2;omega)
theorem qX.node{B:Nat}{w w':World}{mb n:Nat}{vn v':Value}{M:ByteArray->Value}{ns:List ByteArray}{L:List Sv.ba}(h:qX B w mb n vn M ns L)(x:ByteArray)(r1:w'.ownsRow B 9 1 v' (ns.length+1) (ns.map I++[I x]))(r2:w.grownBy w' vn.ownBlock)(r4:v'.ownBlock=vn.ownBlock\/∃g,v'.ownBlock=Z g/\w.heap.size<=g):qX B w' mb n v' M (ns++[x]) L:=by
 refine⟨h.map.kept r2 (λe=>?_),mY r1,λs=>(h.rows s).kept r2 (h.off s),h.apart,λs=>?_,h.base⟩
 .rcases jQ h.nodes h.base with h1|h1
  .rw[h1] at e;cases e
  .exact h1 e.symm
 .rcases r4 with e|⟨g,e,hg⟩
  .rw[e];exact h.off s
  .rw[e]
   cases e2:(M s).ownBlock with
   |none=>exact .inl rfl
   |some k=>exact .inr (λe3=>by have:=(IY (h.rows s) k e2).2;cases e3;omega)
theorem uB(L:List Sv.ba)(x:Sv.ba):jA (L++[x]) x.node=jA L x.node++[x]:=by simp[jA,JL]
theorem sU(L:List Sv.ba)(x:Sv.ba){s:ByteArray}(h:s≠x.node):jA (L++[x]) s=jA L s:=by
 have h2:decide (x.node=s)=false:=by simpa using Ne.symm h
 simp[jA,JL,h2]
theorem qX.put{B:Nat}{w w5:World}{mb n:Nat}{vn v':Value}{M:ByteArray->Value}{ns:List ByteArray}{L:List Sv.ba}(h:qX B w mb n vn M ns L)(x:Sv.ba)(hx:x.node.size<=Ii)(hn:n<Ii)(r1:Sv.Own B w5 v' (jA L x.node++[x]))(r2:w.grownBy w5 (M x.node).ownBlock)(r4:v'.ownBlock=(M x.node).ownBlock\/∃g,v'.ownBlock=Z g/\w.heap.size<=g) :
 ∃w6,(Instr.mapUpdate 279 (.map (Z mb)) (I x.node) v').run be w5=.ok () w6/\qX B w6 mb (n+1) vn (Ff M x.node v') ns (L++[x])/\w5.grownBy w6 (Z mb):=by
 have hm5:eF w5 mb n M:=h.map.kept r2 (λe=>by
  rcases jQ (h.rows x.node) h.base with h1|h1
  .rw[h1] at e;cases e
  .exact h1 e.symm)
 obtain⟨w6,gO,hm6,uc⟩:=hm5.put hn hx v';have VG:∀(u:Value) (t:TypeId) (k m:Nat) (xs:List Value),w.ownsRow B t k u m xs->(u.ownBlock=Y\/u.ownBlock≠(M x.node).ownBlock)->(u.ownBlock=Y\/u.ownBlock≠v'.ownBlock):=λu t k m xs ho bE=>by
  rcases r4 with e|⟨g,e,hg⟩
  .rw[e];exact bE
  .rw[e]
   cases e2:u.ownBlock with
   |none=>exact .inl rfl
   |some j=>exact .inr (λe3=>by have:=(IY ho j e2).2;cases e3;omega)
 have Pz:vn.ownBlock=Y\/vn.ownBlock≠(M x.node).ownBlock:=by
  cases e:vn.ownBlock with
  |none=>exact .inl rfl
  |some j=>
   refine .inr (λe2=>?_);rcases h.off x.node with h1|h1
   .rw[h1] at e2;cases e2
   .exact h1 (e2.symm.trans e.symm)
 refine⟨w6,gO,⟨hm6,?_,λs=>?_,λs t rX=>?_,λs=>?_,h.base⟩,uc⟩
 .exact(QC h.nodes r2 Pz).kept uc (jQ (QC h.nodes r2 Pz) h.base)
 .by_cases e:s=x.node
  .subst e
   rw[jP,uB];exact QC r1 uc (jQ r1 h.base)
  .rw[fy M v' e,sU L x e]
   have h5:w5.ownsRow B 52 9 (M s) (jA L s).length (Sv.fl (jA L s)):=QC (h.rows s) r2 (h.apart s x.node e);exact QC h5 uc (jQ h5 h.base)
 .by_cases e:s=x.node
  .subst e
   rw[jP,fy M v' (Ne.symm rX)];cases e2:v'.ownBlock with
   |none=>exact .inl rfl
   |some j=>
    refine .inr (λe3=>?_);rcases VG (M t) _ _ _ _ (h.rows t) (h.apart t x.node (Ne.symm rX)) with h1|h1
    .rw[h1] at e3;cases e3
    .exact h1 (e3.symm.trans e2.symm)
  .by_cases e2:t=x.node
   .subst e2
    rw[jP,fy M v' e];exact VG (M s) _ _ _ _ (h.rows s) (h.apart s x.node e)
   .rw[fy M v' e,fy M v' e2]
    exact h.apart s t rX
 .by_cases e:s=x.node
  .subst e
   rw[jP];cases e2:v'.ownBlock with
   |none=>exact .inl rfl
   |some j=>
    refine .inr (λe3=>?_);rcases VG vn _ _ _ _ h.nodes Pz with h1|h1
    .rw[h1] at e3;cases e3
    .exact h1 (e3.symm.trans e2.symm)
  .rw[fy M v' e]
   exact h.off s
theorem svI:(Tryz.prog.info? 52).map (λi=>(i.zero,i.size,i.bytes))=Z (Z (Ip #[I ⟨#[]⟩,I ⟨#[]⟩,I ⟨#[]⟩,I ⟨#[]⟩,O J 0,O J 0,AT false,O J 0,AT false]),9,104):=by kernel_rfl
theorem Fg{ms:List Mem}{L:List Sv.ba}{x:Sv.ba}(h:yr ms x.node=false):bP ms (L++[x])=bP ms L++[x]:=by simp[bP,JL,h]
theorem Fh{ms:List Mem}{L:List Sv.ba}{x:Sv.ba}(h:yr ms x.node=true):bP ms (L++[x])=bP ms L:=by simp[bP,JL,h]
theorem sV{L:List Sv.ba}{k:Nat}(h:k<L.length):L.take (k+1)=L.take k++[L.getD k Sv.dm]:=by
 rw[Iw h];simp[Io,Ic h]
theorem yL{L:List Sv.ba}{n:ByteArray}(h:(jA L n).length=0):n ∉ bO L:=λhm=>by
 obtain⟨s,hs,e⟩:=(nz L n).1 hm
 have:s∈jA L n:=Ox.2 ⟨hs,by simpa using e⟩
 rw[IX h] at this;simp at this
theorem Ly{L:List Sv.ba}{n:ByteArray}(h:(jA L n).length≠0):n∈bO L:=by
 rw[nz];obtain⟨s,hs⟩:=List.exists_mem_of_length_pos (Nat.pos_of_ne_zero h);have:=Ox.1 hs;exact⟨s,this.1,by simpa using this.2⟩
theorem Fi{L:List Sv.ba}{x:Sv.ba}(h:(jA L x.node).length=0):bO (L++[x])=bO L++[x.node]:=by rw[jf,sR (yL h)]
theorem Fj{L:List Sv.ba}{x:Sv.ba}(h:(jA L x.node).length≠0):bO (L++[x])=bO L:=by rw[jf,wQ (Ly h)]
theorem Fk{SL:List ByteArray}{L:List Sv.ba}{j:Nat}(h:j<SL.length):fQ (SL.take (j+1)) L=fQ (SL.take j) L++jA L (SL.getD j If):=by
 unfold fQ;rw[Iw h,List.flatMap_append];simp[Io,Ic h]
theorem yM:∀(ns:List ByteArray) (L:List Sv.ba),(fQ ns L).length<=ns.length*L.length
 |[],L=>by simp[fQ]
 |n::r,L=>by
  have h1:=yM r L;have h2:(jA L n).length<=L.length:=Ow _ _;have e:fQ (n::r) L=jA L n++fQ r L:=by simp[fQ]
  rw[e,Ij,List.length_cons,Nat.add_mul];omega
theorem PH{w:World}{a:Option Addr}{n c m:Nat}{ms:List Sv.ba}(h:Sv.Sl w (U a n c) ms):Sv.Sl w (U a (ms.take m).length c) (ms.take m):=by
 obtain⟨a',c',hv,hs,h⟩:=h;simp only[Value.slice.injEq] at hv;obtain⟨rfl,rfl,rfl⟩:=hv;refine⟨a,c,rfl,Sv.bN (λx hx=>Sv.eK hs x (JV hx)),?_⟩;rcases h with h|⟨b,off,ha,aB,hr⟩
 .exact .inl (by rw[h];simp)
 .refine .inr ⟨b,off,ha,aB,λj hj=>?_⟩
  have ua:j<ms.length:=by rw[IA] at hj;omega
  have hj3:j<m:=by rw[IA] at hj;omega
  have e:(ms.take m).getD j Sv.dm=ms.getD j Sv.dm:=by simp[Io,List.getElem?_take_of_lt hj3]
  rw[e];exact hr j ua
theorem Lz{base:Nat}{w:World}{v:Value}{l:List ByteArray}(h:df base w v l)(hs:∀s∈l,s.size<=Ii):xx w v l:=by
 have hz:∀j,(l.getD j If).size<=Ii:=λj=>by
  by_cases hj:j<l.length
  .rw[show l.getD j If=l[j] by simp[Io,Ic hj]];exact hs _ (List.getElem_mem hj)
  .rw[show l.getD j If=If by simp[Io,List.getElem?_eq_none (by omega:l.length<=j)]];decide
 rcases h.2 with⟨hv,h0⟩|⟨g,c,cur,hv,_,hg,_⟩
 .exact⟨Y,0,by rw[hv,h0],hz,.inl (O6.1 h0)⟩
 .refine⟨Z ⟨g,0,Y⟩,c,hv,hz,.inr ⟨g,0,rfl,(Ib.1 hg).1,λj hj=>?_⟩⟩
  subst hv;rw[Nat.zero_add,OV h j (by omega)];simp[Io,Ic hj]
theorem LA{B:Nat}{w:World}{v:Value}{L:List Sv.ba}{x:Sv.ba}{lu:Nat}(h:lu=L.length)(ho:w.ownsRow B 52 9 v (lu+1) (Sv.fl L++x.cs)):Sv.Own B w v (L++[x]):=by subst h;exact Sv.ew ho
theorem pN(ms:List Mem)(L:List Sv.ba):(bP ms L).length<=L.length:=Ow _ _
theorem CR(L:List Sv.ba)(n:ByteArray):(jA L n).length<=L.length:=Ow _ _
theorem yN(here:ByteArray)(ps pm pw:Option Addr)(ns cs nm cm nw cw:Nat)(px py pz ph pq:Int)(ms:List Mem)(found:List Sv.ba)(wh:List Wh.cd)(SL:List ByteArray)(vf:Value)(w:World)(hm:Sl w (U pm nm cm) ms)(hf:Sv.Sl w vf found)(Ah:Wh.Sl w (U pw nw cw) wh)(hn:nm<=1000)(qP:found.length<=40)(hso:∀(vn:Value) (W:World),Wh.Sl W (U pw nw cw) wh->xx W vn (bO (bP ms found))->Calls be 243 #[Ip #[O J px,O J py,O J pz,O J ph,O J pq],U pw nw cw,vn] W λe w'=>∃v' E,e=sh (Il #[v',O J E])/\xx w' v' SL/\Below W.heap.size W w')(hSL:∀x∈SL,x∈bO (bP ms found))(alx:SL.length<=40) :
 Calls be 194 #[Ip (eH here (U ps ns cs) (U pm nm cm) px py pz ph pq (U pw nw cw)),vf] w λe w'=>∃v',e=sh v'/\Sv.Sl w' v' ((fQ SL (bP ms found)).take 20)/\Below w.heap.size w w':=by
 have Py:Hid _:=hso;have T4:Hid (∀x∈SL,x∈bO (bP ms found)):=hSL;have HWH:Hid (Wh.Sl w (U pw nw cw) wh):=Ah;clear hso hSL Ah;obtain⟨i0,eP,cE,gn,ga⟩:=info_parts svI;obtain⟨j0,MZ,jz0,jzs,jzb⟩:=info_parts Tryz.wu;have HM:Hid (Sl w (U pm nm cm) ms):=hm;obtain⟨pf,cf,rfl,hfs,hfa⟩:=hf;have HFS:Hid (∀j,(found.getD j Sv.dm).ok):=hfs;have HA:Hid (found=[]\/∃b off,pf=Z ⟨b,off,Y⟩/\b<w.heap.size/\Sv.Row w b off found):=hfa;clear hm hfs hfa;generalize hNN:found.length=n at *;have HN:Hid (found.length=n):=hNN;clear hNN;have oS := @run_makeMap be;go_enter Tryz.func194,Tryz.ntmps194;go_wp2_with fail;obtain⟨W,hW⟩:∃W,W=(w.alloc (AI (eH here (U ps ns cs) (U pm nm cm) px py pz ph pq (U pw nw cw)) 137)).alloc (.map #[] 0):=⟨_,rfl⟩;rw[<- hW];have uv:Hid (Below w.heap.size w W):=by rw[hW];exact((Ia _ _).alloc (By _) _).alloc (by simp) _
 have yO:Hid (W.heap[w.heap.size]?=Z (AI (eH here (U ps ns cs) (U pm nm cm) px py pz ph pq (U pw nw cw)) 137 (0,0))):=by
  rw[hW,It _ _ _ (by simp)];exact Ie w _
 have uu:Hid (qX (w.heap.size+2) W (w.heap.size+1) 0 (U Y 0 0) (λ_=>.slice Y 0 0) [] []):=by
  have h:=Lx (w.alloc (AI (eH here (U ps ns cs) (U pm nm cm) px py pz ph pq (U pw nw cw)) 137));rw[show(w.alloc (AI (eH here (U ps ns cs) (U pm nm cm) px py pz ph pq (U pw nw cw)) 137)).heap.size=w.heap.size+1 by simp] at h;rw[hW];exact h
 clear hW;go_loopw [6,17] (λvn i wr=>∃(k:Nat) (M:ByteArray->Value),k<=n/\i=O J k/\Hid (qX (w.heap.size+2) wr (w.heap.size+1) k vn M (bO (bP ms (found.take k))) (bP ms (found.take k)))/\Hid (Below w.heap.size w wr)/\Hid (wr.heap[w.heap.size]?=Z (AI (eH here (U ps ns cs) (U pm nm cm) px py pz ph pq (U pw nw cw)) 137 (0,0)))) (λ_ i _=>n-(intOf i).toNat)
 case atStart=>exact⟨0,_,IF _,rfl,uu,uv,yO⟩
 case round=>
  obtain⟨k,M,hk,rfl,HG,HB,HK⟩:=hrel;have VH:=HB.out.size;have alC:=HG.out.map.lt;by_cases aB:k<n
  .obtain⟨b,off,hZ,dX,hr⟩:∃b off,pf=Z ⟨b,off,Y⟩/\b<w.heap.size/\Sv.Row w b off found:=by
    rcases HA.out with h|h
    .have:=HN.out;rw[h] at this;simp at this;omega
    .exact h
   subst hZ;have Ap:k<found.length:=by rw[HN.out];exact aB
   obtain⟨c0,c1,c2,c3,c4,c5,c6,c7,c8⟩:=hr.later HB.out dX k Ap;clear hr;have GH:Hid (found.take (k+1)=found.take k++[found.getD k Sv.dm]):=sV Ap;have sW:(found.getD k Sv.dm).node.size<=Ii:=(HFS.out k).1;have hLn:(bP ms (found.take k)).length<=40:=by have h1:=pN ms (found.take k);have h2:(found.take k).length<=k:=Oj _ _;omega
   generalize found.getD k Sv.dm=x at *;obtain⟨nd,cF,name,tag,ad,po,kT,kU,kV⟩:=x;simp only at c0 c1 c2 c3 c4 c5 c6 c7 c8 sW;have Vs:w.heap.size<wr.heap.size:=by omega
   have hd:∀ob,(wr.alloc ob).heap[w.heap.size]?=Z (AI (eH here (U ps ns cs) (U pm nm cm) px py pz ph pq (U pw nw cw)) 137 (0,0)):=λob=>by rw[It _ _ _ Vs];exact HK.out
   have d0:∀ob,(wr.alloc ob).cell? ⟨w.heap.size,0,Y⟩=Z (I here):=λob=>af (hd ob) 0;have d1:∀ob,(wr.alloc ob).cell? ⟨w.heap.size,1,Y⟩=Z (U ps ns cs):=λob=>af (hd ob) 1;have d2:∀ob,(wr.alloc ob).cell? ⟨w.heap.size,2,Y⟩=Z (U pm nm cm):=λob=>af (hd ob) 2;have d3:∀ob,(wr.alloc ob).cell? ⟨w.heap.size,3,Y⟩=Z (O J px):=λob=>af (hd ob) 3;have d4:∀ob,(wr.alloc ob).cell? ⟨w.heap.size,4,Y⟩=Z (O J py):=λob=>af (hd ob) 4;have d5:∀ob,(wr.alloc ob).cell? ⟨w.heap.size,5,Y⟩=Z (O J pz):=λob=>af (hd ob) 5;have d6:∀ob,(wr.alloc ob).cell? ⟨w.heap.size,6,Y⟩=Z (O J ph):=λob=>af (hd ob) 6;have d7:∀ob,(wr.alloc ob).cell? ⟨w.heap.size,7,Y⟩=Z (O J pq):=λob=>af (hd ob) 7;have d8:∀ob,(wr.alloc ob).cell? ⟨w.heap.size,8,Y⟩=Z (U pw nw cw):=λob=>af (hd ob) 8;have HD:Hid (∀ob,(wr.alloc ob).heap[w.heap.size]?=Z (AI (eH here (U ps ns cs) (U pm nm cm) px py pz ph pq (U pw nw cw)) 137 (0,0))):=hd;clear hd;go_wp2_with fail;have Xx:Below wr.heap.size wr (wr.alloc (AI #[I nd,I cF,I name,I tag,O J ad,O J po,AT kT,O J kU,AT kV] 52)):=(Ia _ _).alloc (By _) _;refine(ET here ps pm pw ns cs nm cm nw cw px py pz ph pq ms nd _ (HM.out.below (HB.out.trans (Xx.mono VH))) hn).mono ?_;rintro e w1 ⟨rfl,an⟩;have aK:Hid (Below w.heap.size w w1):=(HB.out.trans (Xx.mono VH)).trans (an.mono (by simp;omega));have ji:Hid (qX (w.heap.size+2) w1 (w.heap.size+1) k u6 M (bO (bP ms (found.take k))) (bP ms (found.take k))):=(HG.out.below Xx).below an;have mD:Hid (w1.heap[w.heap.size]?=Z (AI (eH here (U ps ns cs) (U pm nm cm) px py pz ph pq (U pw nw cw)) 137 (0,0))):=(an.block _ (by simp;omega)).trans (HD.out _);have eL:w1.heap[wr.heap.size]?=Z (AI #[I nd,I cF,I name,I tag,O J ad,O J po,AT kT,O J kU,AT kV] 52 (0,0)):=(an.block _ (by simp)).trans (Ie wr _);have q0:w1.cell? ⟨wr.heap.size,0,Y⟩=Z (I nd):=af eL 0;have q1:w1.cell? ⟨wr.heap.size,1,Y⟩=Z (I cF):=af eL 1;have q2:w1.cell? ⟨wr.heap.size,2,Y⟩=Z (I name):=af eL 2;have q3:w1.cell? ⟨wr.heap.size,3,Y⟩=Z (I tag):=af eL 3;have q4:w1.cell? ⟨wr.heap.size,4,Y⟩=Z (O J ad):=af eL 4;have q5:w1.cell? ⟨wr.heap.size,5,Y⟩=Z (O J po):=af eL 5;have q6:w1.cell? ⟨wr.heap.size,6,Y⟩=Z (AT kT):=af eL 6;have q7:w1.cell? ⟨wr.heap.size,7,Y⟩=Z (O J kU):=af eL 7;have q8:w1.cell? ⟨wr.heap.size,8,Y⟩=Z (AT kV):=af eL 8;have CS:Hid (∀g,(M nd).ownBlock=Z g->g<wr.heap.size):=λg h=>(IY (HG.out.rows nd) g h).2;have afL:Hid (∀g,u6.ownBlock=Z g->g<wr.heap.size):=λg h=>(IY HG.out.nodes g h).2;have gi:wr.heap.size+1<=w1.heap.size:=by have:=an.size;simpa using this
   have HGX:Hid (w1.heap[wr.heap.size]?=Z (AI #[I nd,I cF,I name,I tag,O J ad,O J po,AT kT,O J kU,AT kV] 52 (0,0))):=eL;clear an Xx HG HK HD d0 d1 d2 d3 d4 d5 d6 d7 d8 eL;rcases hout:yr ms nd with _|_
   .have VI:Hid (bP ms (found.take (k+1))=bP ms (found.take k)++[⟨nd,cF,name,tag,ad,po,kT,kU,kV⟩]):=by rw[GH.out];exact Fg hout
    generalize bP ms (found.take k)=L at *;obtain⟨pu,lu,cu,hu⟩:∃p l c,M nd=U p l c:=by
     rcases(ji.out.rows nd).2 with⟨h,h0⟩|⟨g,c,cur,h,_⟩
     .exact⟨Y,0,0,h⟩
     .exact⟨_,_,_,h⟩
    have HU:Hid (M nd=U pu lu cu):=hu;have Sz:Hid (lu=(jA L nd).length):=by
     rcases(ji.out.rows nd).2 with⟨h,h0⟩|⟨g,c,cur,h,_⟩
     .rw[hu] at h;injection h with _ h2 _;show lu=_;omega
     .rw[hu] at h;injection h
    have HAV:Hid ((U pu lu cu).ownBlock≠Z wr.heap.size):=λh=>by
     have:=CS.out _ (by rw[HU.out];exact h);omega
    have hlk:(J5 279 (.map (Z (w.heap.size+1))) (I nd) false).run be w1=.ok (U pu lu cu) w1:=by rw[<- hu];exact ji.out.map.look sW
    have wM:k<Ii:=by unfold Ii;omega
    have hLo:=CR L nd;have Vw:lu<=40:=by have:=Sz.out;omega
    have h63:lu+1<=Ii:=by unfold Ii;omega
    have Ng:(lu+1)*104<=140737488355328:=by omega
    clear hLo;clear hu;by_cases h0:lu=0
    .have tW:Hid (bO (L++[⟨nd,cF,name,tag,ad,po,kT,kU,kV⟩])=bO L++[nd]):=Fi (by have:=Sz.out;simp only;omega)
     have alF:((lu:Int)==0)=true:=by rw[h0];rfl
     clear h0;have hNS:(bO L).length<=40:=by have:=sS L;omega
     generalize bO L=NS at *;go_wp2_with (at_builtin;refine wpList_append_own_at _ rfl _ _ 111 rfl (w.heap.size+2) 9 j0 _ 1 16 Tryz.underlying111 MZ jz0 jzs jzb rfl (by omega) _ NS.length (NS.map I) rfl ?hown ⟨w1.heap.size,0,Y⟩ 1 1 [I nd] rfl rfl ?hnews (nS [_]) ?h63 ?hbytes ?hbase ?_)
     case hown=>exact J6 ji.out.nodes _
     case hnews=>exact cell_one_new _ _ _
     case h63=>(unfold Ii;omega)
     case hbytes=>omega
     case hbase=>(simp;omega)
     intro vn2 w2 r1 r2 r3 r4;have nP:w1.heap.size+1<=w2.heap.size:=by have h:=r2.size;simpa using h
     have oP:Hid (qX (w.heap.size+2) w2 (w.heap.size+1) k vn2 M (NS++[nd]) L):=(ji.out.below ((Ia _ _).alloc (By _) (AI #[I nd] 9))).node nd r1 r2 (by rcases r4 with h|h;exact .inl h;exact .inr ⟨_,h,by simp⟩);have bD:Hid (Below w.heap.size w w2):=(aK.out.alloc (by omega) _).grown r2 (by simp;omega) (λj hj=>by have:=(IY ji.out.nodes j hj).1;omega);have jY:Hid (w2.heap[w.heap.size]?=Z (AI (eH here (U ps ns cs) (U pm nm cm) px py pz ph pq (U pw nw cw)) 137 (0,0))):=by
      have h2:=r2.block w.heap.size (by simp;omega) (by intro e;have:=(IY ji.out.nodes _ e.symm).1;omega);exact h2.trans ((It w1 _ _ (by omega)).trans mD.out)
     have uC:w2.heap[wr.heap.size]?=Z (AI #[I nd,I cF,I name,I tag,O J ad,O J po,AT kT,O J kU,AT kV] 52 (0,0)):=by
      have h2:=r2.block wr.heap.size (by simp;omega) (by intro e;have:=afL.out _ e.symm;omega);exact h2.trans ((It w1 _ _ (by omega)).trans HGX.out)
     clear q0 q1 q2 q3 q4 q5 q6 q7 q8 r1 r2 r3 r4 hlk;have q0:w2.cell? ⟨wr.heap.size,0,Y⟩=Z (I nd):=af uC 0;have q1:w2.cell? ⟨wr.heap.size,1,Y⟩=Z (I cF):=af uC 1;have q2:w2.cell? ⟨wr.heap.size,2,Y⟩=Z (I name):=af uC 2;have q3:w2.cell? ⟨wr.heap.size,3,Y⟩=Z (I tag):=af uC 3;have q4:w2.cell? ⟨wr.heap.size,4,Y⟩=Z (O J ad):=af uC 4;have q5:w2.cell? ⟨wr.heap.size,5,Y⟩=Z (O J po):=af uC 5;have q6:w2.cell? ⟨wr.heap.size,6,Y⟩=Z (AT kT):=af uC 6;have q7:w2.cell? ⟨wr.heap.size,7,Y⟩=Z (O J kU):=af uC 7;have q8:w2.cell? ⟨wr.heap.size,8,Y⟩=Z (AT kV):=af uC 8;clear uC;go_wp2_with fail;have tZ:(J5 279 (.map (Z (w.heap.size+1))) (I nd) false).run be w2.drew=.ok (U pu lu cu) w2.drew:=by have h:=eF.look (show eF w2.drew _ _ _ from oP.out.map) sW;rw[HU.out] at h;exact h
     have dX:∀o,(J5 279 (.map (Z (w.heap.size+1))) (I nd) false).run be (w2.drew.alloc o)=.ok (U pu lu cu) (w2.drew.alloc o):=λo=>by have h:=eF.look (show eF (w2.drew.alloc o) _ _ _ from oP.out.map.below (((Ia _ _).drew).alloc (By _) o)) sW;rw[HU.out] at h;exact h
     have dK:∀o,(J5 279 (.map (Z (w.heap.size+1))) (I nd) false).run be (w2.alloc o).drew=.ok (U pu lu cu) (w2.alloc o).drew:=dX;have PI:wr.heap.size<w2.heap.size:=IE w2 ⟨wr.heap.size,0,Y⟩ q0;have oq:w2.ownsRow (w.heap.size+2) 52 9 (U pu lu cu) lu (Sv.fl (jA L nd)):=by have h:w2.ownsRow (w.heap.size+2) 52 9 (M nd) (jA L nd).length (Sv.fl (jA L nd)):=oP.out.rows nd;rw[HU.out,<- Sz.out] at h;exact h
     have Nh:(U pu lu cu).ownBlock≠Z wr.heap.size:=HAV.out;have hBW:w.heap.size+2<=w2.heap.size:=by omega
     have HGB:Hid (qX (w.heap.size+2) (w2.alloc (AI #[I nd,I cF,I name,I tag,O J ad,O J po,AT kT,O J kU,AT kV] 52)).drew (w.heap.size+1) k vn2 M (NS++[nd]) L):=oP.out.below ((Ia _ _).alloc (By _) _).drew;go_region_held3 (λw'=>w'.cell? ⟨wr.heap.size,0,Y⟩=Z (I nd)/\w'.cell? ⟨wr.heap.size,1,Y⟩=Z (I cF)/\w'.cell? ⟨wr.heap.size,2,Y⟩=Z (I name)/\w'.cell? ⟨wr.heap.size,3,Y⟩=Z (I tag)/\w'.cell? ⟨wr.heap.size,4,Y⟩=Z (O J ad)/\w'.cell? ⟨wr.heap.size,5,Y⟩=Z (O J po)/\w'.cell? ⟨wr.heap.size,6,Y⟩=Z (AT kT)/\w'.cell? ⟨wr.heap.size,7,Y⟩=Z (O J kU)/\w'.cell? ⟨wr.heap.size,8,Y⟩=Z (AT kV))
      (first
        |go_keep
        |(go_split_ands
          refine⟨?_,?_,?_,?_,?_,?_,?_,?_,?_⟩;all_goals (rw[bU.cell_far _ (by simp;omega) (Ne.symm Nh)];assumption))
        |(go_split_ands
          refine⟨?_,?_,?_,?_,?_,?_,?_,?_,?_⟩;all_goals (rw[uc.cell_far _ (by show wr.heap.size<_;have:=bU.size;simp at this;omega) (by intro e;have e2:wr.heap.size=w.heap.size+1:=Oc e;omega)];assumption)))
      ((refine Qz _ (by rfl) _ _ _ (by rfl) (w.heap.size+2) 52 i0 _ 9 104 OI eP cE gn ga rfl (by omega) (U pu lu cu) lu (Sv.fl (jA L nd)) (by rfl) ((J6 oq _).drew)
         ⟨w2.heap.size,0,Y⟩ 1 1 [I nd,I cF,I name,I tag,O J ad,O J po,AT kT,O J kU,AT kV] (by rfl) (by rfl) (Ol (cs:=#[I nd,I cF,I name,I tag,O J ad,O J po,AT kT,O J kU,AT kV]) (t:=52) (fr:=(0,0)) (Ie w2 _)) (by simp[Value.oneCell'])
         (by omega) h63 Ng (by simp;omega) (w2.heap.size+1) (by simp) ?_;intro gg cap w5 ib bU cG aB;obtain⟨w6,LB,HG6,uc⟩:=qX.put HGB.out ⟨nd,cF,name,tag,ad,po,kT,kU,kV⟩ sW wM (v':=U (Z ⟨gg,0,Y⟩) (lu+1) cap) (LA Sz.out ib) (by rw[HU.out];exact bU) (by rw[HU.out];rcases cG with h|h;exact .inl h.symm;exact .inr ⟨gg,rfl,by simp;omega⟩)))
     all_goals
      have SH:w2.heap.size+1<=w5.heap.size:=by have h:=bU.size;simpa using h
      have iW:Hid (Below w.heap.size w w6):=((bD.out.alloc (by omega) _).drew.grown bU (by simp;omega) (λj hj=>by have:=(IY oq j hj).1;omega)).grown uc (by omega) (λj hj=>by cases hj;omega);have xt:Hid (w6.heap[w.heap.size]?=Z (AI (eH here (U ps ns cs) (U pm nm cm) px py pz ph pq (U pw nw cw)) 137 (0,0))):=by
       have h1:=uc.block w.heap.size (by omega) (by intro e;have e2:=Oc e;omega);have h2:=bU.block w.heap.size (by simp;omega) (by intro e;have:=(IY oq _ e.symm).1;omega);exact h1.trans (h2.trans ((It w2 _ _ (by omega)).trans jY.out))
      have PJ:Hid (qX (w.heap.size+2) w6 (w.heap.size+1) (k+1) vn2 (Ff M nd (U (Z ⟨gg,0,Y⟩) (lu+1) cap)) (NS++[nd]) (L++[⟨nd,cF,name,tag,ad,po,kT,kU,kV⟩])):=HG6;clear HG6 uc LB bU ib cG aB oq tZ dX dK;go_wp2_with fail;exact⟨⟨k+1,_,by omega,by go_num,by rw[VI.out,tW.out];exact PJ,iW,xt⟩,by simp[intOf];omega⟩
    .have tW:Hid (bO (L++[⟨nd,cF,name,tag,ad,po,kT,kU,kV⟩])=bO L):=Fj (by have:=Sz.out;simp only;omega)
     have tZ:((lu:Int)==0)=false:=by simpa using h0
     generalize bO L=NS at *;go_wp2_with fail;have tZ:(J5 279 (.map (Z (w.heap.size+1))) (I nd) false).run be w1.drew=.ok (U pu lu cu) w1.drew:=by have h:=eF.look (show eF w1.drew _ _ _ from ji.out.map) sW;rw[HU.out] at h;exact h
     have dX:∀o,(J5 279 (.map (Z (w.heap.size+1))) (I nd) false).run be (w1.drew.alloc o)=.ok (U pu lu cu) (w1.drew.alloc o):=λo=>by have h:=eF.look (show eF (w1.drew.alloc o) _ _ _ from ji.out.map.below (((Ia _ _).drew).alloc (By _) o)) sW;rw[HU.out] at h;exact h
     have dK:∀o,(J5 279 (.map (Z (w.heap.size+1))) (I nd) false).run be (w1.alloc o).drew=.ok (U pu lu cu) (w1.alloc o).drew:=dX;have PI:wr.heap.size<w1.heap.size:=IE w1 ⟨wr.heap.size,0,Y⟩ q0;have oq:w1.ownsRow (w.heap.size+2) 52 9 (U pu lu cu) lu (Sv.fl (jA L nd)):=by have h:w1.ownsRow (w.heap.size+2) 52 9 (M nd) (jA L nd).length (Sv.fl (jA L nd)):=ji.out.rows nd;rw[HU.out,<- Sz.out] at h;exact h
     have Nh:(U pu lu cu).ownBlock≠Z wr.heap.size:=HAV.out;have hBW:w.heap.size+2<=w1.heap.size:=by omega
     have HGB:Hid (qX (w.heap.size+2) (w1.alloc (AI #[I nd,I cF,I name,I tag,O J ad,O J po,AT kT,O J kU,AT kV] 52)).drew (w.heap.size+1) k u6 M NS L):=ji.out.below ((Ia _ _).alloc (By _) _).drew;go_region_held3 (λw'=>w'.cell? ⟨wr.heap.size,0,Y⟩=Z (I nd)/\w'.cell? ⟨wr.heap.size,1,Y⟩=Z (I cF)/\w'.cell? ⟨wr.heap.size,2,Y⟩=Z (I name)/\w'.cell? ⟨wr.heap.size,3,Y⟩=Z (I tag)/\w'.cell? ⟨wr.heap.size,4,Y⟩=Z (O J ad)/\w'.cell? ⟨wr.heap.size,5,Y⟩=Z (O J po)/\w'.cell? ⟨wr.heap.size,6,Y⟩=Z (AT kT)/\w'.cell? ⟨wr.heap.size,7,Y⟩=Z (O J kU)/\w'.cell? ⟨wr.heap.size,8,Y⟩=Z (AT kV))
      (first
        |go_keep
        |(go_split_ands
          refine⟨?_,?_,?_,?_,?_,?_,?_,?_,?_⟩;all_goals (rw[bU.cell_far _ (by simp;omega) (Ne.symm Nh)];assumption))
        |(go_split_ands
          refine⟨?_,?_,?_,?_,?_,?_,?_,?_,?_⟩;all_goals (rw[uc.cell_far _ (by show wr.heap.size<_;have:=bU.size;simp at this;omega) (by intro e;have e2:wr.heap.size=w.heap.size+1:=Oc e;omega)];assumption)))
      ((refine Qz _ (by rfl) _ _ _ (by rfl) (w.heap.size+2) 52 i0 _ 9 104 OI eP cE gn ga rfl (by omega) (U pu lu cu) lu (Sv.fl (jA L nd)) (by rfl) ((J6 oq _).drew)
         ⟨w1.heap.size,0,Y⟩ 1 1 [I nd,I cF,I name,I tag,O J ad,O J po,AT kT,O J kU,AT kV] (by rfl) (by rfl) (Ol (cs:=#[I nd,I cF,I name,I tag,O J ad,O J po,AT kT,O J kU,AT kV]) (t:=52) (fr:=(0,0)) (Ie w1 _)) (by simp[Value.oneCell'])
         (by omega) h63 Ng (by simp;omega) (w1.heap.size+1) (by simp) ?_;intro gg cap w5 ib bU cG aB;obtain⟨w6,LB,HG6,uc⟩:=qX.put HGB.out ⟨nd,cF,name,tag,ad,po,kT,kU,kV⟩ sW wM (v':=U (Z ⟨gg,0,Y⟩) (lu+1) cap) (LA Sz.out ib) (by rw[HU.out];exact bU) (by rw[HU.out];rcases cG with h|h;exact .inl h.symm;exact .inr ⟨gg,rfl,by simp;omega⟩)))
     all_goals
      have SH:w1.heap.size+1<=w5.heap.size:=by have h:=bU.size;simpa using h
      have iW:Hid (Below w.heap.size w w6):=((aK.out.alloc (by omega) _).drew.grown bU (by simp;omega) (λj hj=>by have:=(IY oq j hj).1;omega)).grown uc (by omega) (λj hj=>by cases hj;omega);have xt:Hid (w6.heap[w.heap.size]?=Z (AI (eH here (U ps ns cs) (U pm nm cm) px py pz ph pq (U pw nw cw)) 137 (0,0))):=by
       have h1:=uc.block w.heap.size (by omega) (by intro e;have e2:=Oc e;omega);have h2:=bU.block w.heap.size (by simp;omega) (by intro e;have:=(IY oq _ e.symm).1;omega);exact h1.trans (h2.trans ((It w1 _ _ (by omega)).trans mD.out))
      have PJ:Hid (qX (w.heap.size+2) w6 (w.heap.size+1) (k+1) u6 (Ff M nd (U (Z ⟨gg,0,Y⟩) (lu+1) cap)) NS (L++[⟨nd,cF,name,tag,ad,po,kT,kU,kV⟩])):=HG6;clear HG6 uc LB bU ib cG aB oq tZ dX dK;go_wp2_with fail;exact⟨⟨k+1,_,by omega,by go_num,by rw[VI.out,tW.out];exact PJ,iW,xt⟩,by simp[intOf];omega⟩
   .have VI:Hid (bP ms (found.take (k+1))=bP ms (found.take k)):=by rw[GH.out];exact Fh hout
    go_wp2_with fail;go_roundw
    case rel=>exact⟨k+1,M,by omega,by go_num,by rw[VI.out];exact ji.out.more (by omega),aK,mD⟩
    case measure=>simp[intOf];omega
  .have gj:k=n:=by omega
   have VI:Hid (bP ms (found.take k)=bP ms found):=by rw[IW (by rw[HN.out];omega)];rfl
   have sW:∀s∈bO (bP ms found),s.size<=Ii:=λs hs=>by
    obtain⟨x,hx,e⟩:=(nz _ s).1 hs;have h1:=(Ox.1 hx).1;rw[<- e];exact(Sv.eK HFS.out x h1).1
   have PA:Hid (xx wr u6 (bO (bP ms found))):=by
    have h:=HG.out.nodes;rw[VI.out] at h;exact Lz h sW
   have HGL:Hid (qX (w.heap.size+2) wr (w.heap.size+1) k u6 M (bO (bP ms found)) (bP ms found)):=by
    have h:=HG.out;rw[VI.out] at h;exact h
   have hLn:(bP ms found).length<=40:=by have h1:=pN ms found;have h2:=HN.out;omega
   have afO:Hid (∀x∈bP ms found,x.ok):=λx hx=>Sv.eK HFS.out x (Ox.1 hx).1;have aaH:Hid _:=Py.out u6 wr (HWH.out.below HB.out) PA.out;have d3:wr.cell? ⟨w.heap.size,3,Y⟩=Z (O J px):=af HK.out 3;have d4:wr.cell? ⟨w.heap.size,4,Y⟩=Z (O J py):=af HK.out 4;have d5:wr.cell? ⟨w.heap.size,5,Y⟩=Z (O J pz):=af HK.out 5;have d6:wr.cell? ⟨w.heap.size,6,Y⟩=Z (O J ph):=af HK.out 6;have d7:wr.cell? ⟨w.heap.size,7,Y⟩=Z (O J pq):=af HK.out 7;have d8:wr.cell? ⟨w.heap.size,8,Y⟩=Z (U pw nw cw):=af HK.out 8;clear sW HG PA Py HA;generalize hLL:bP ms found=L at *;have Cz:Hid (bP ms found=L):=hLL;clear hLL;go_wp2_with fail;refine Calls.mono aaH.out ?_;rintro e w3 ⟨vs,E,rfl,ts,bn⟩;have Ni:=bn.size;have cT:Hid (Below w.heap.size w w3):=HB.out.trans (bn.mono VH);have PK:Hid (qX (w.heap.size+2) w3 (w.heap.size+1) k u6 M (bO L) L):=HGL.out.below bn;obtain⟨pv,cv,rfl,hvz,Nf⟩:=ts;have HVA:Hid (SL=[]\/∃b off,pv=Z ⟨b,off,Y⟩/\b<w3.heap.size/\Vz w3 b off SL):=Nf;have HVZ:Hid (∀j,(SL.getD j If).size<=Ii):=hvz;clear Nf hvz bn aaH HGL d3 d4 d5 d6 d7 d8;generalize hMM:SL.length=m at *;have HMM:Hid (SL.length=m):=hMM;clear hMM;go_wp2_with fail;go_loopw [11,58] (λvl i wr=>∃j:Nat,j<=m/\i=O J j/\Hid (Sv.Own w3.heap.size wr vl (fQ (SL.take j) L))/\Hid (Below w3.heap.size w3 wr)) (λ_ i _=>m-(intOf i).toNat)
   case atStart=>exact⟨0,IF _,rfl,Sv.bz _ _,Ia _ _⟩
   case round=>
    obtain⟨j,hj,rfl,HO,fb⟩:=hrel;have yw:=fb.out.size;have hAL:(fQ (SL.take j) L).length<=1600:=by
     have h1:=yM (SL.take j) L;have h2:(SL.take j).length<=40:=by have:=Oj j SL;omega
     have h3:(SL.take j).length*L.length<=40*40:=Nat.mul_le_mul h2 hLn;omega
    by_cases xH:j<m
    .obtain⟨bv,ov,hZ,hlv,hrv⟩:∃b off,pv=Z ⟨b,off,Y⟩/\b<w3.heap.size/\Vz w3 b off SL:=by
      rcases HVA.out with h|h
      .have:=HMM.out;rw[h] at this;simp at this;omega
      .exact h
     subst hZ;have MW:j<SL.length:=by rw[HMM.out];exact xH
     have cN:wr.cell? ⟨bv,ov+j,Y⟩=Z (I (SL.getD j If)):=(fb.out.cell (p:=⟨bv,ov+j,Y⟩) hlv).trans (hrv j MW);have aaJ:SL.getD j If∈bO L:=T4.out _ (by simp[Io,Ic MW]);have bE:(jA L (SL.getD j If)).length≠0:=λh=>yL h aaJ;have o6:Hid (fQ (SL.take (j+1)) L=fQ (SL.take j) L++jA L (SL.getD j If)):=Fk MW;have GS:=HVZ.out j;clear aaJ hrv;generalize SL.getD j If=nd at *;have hon:=CR L nd;obtain⟨g,cu,hu⟩:=Sv.jG (PK.out.rows nd) 0 (by omega);have hr4:wr.ownsRow (w.heap.size+2) 52 9 (U (Z ⟨g,0,Y⟩) (jA L nd).length cu) (jA L nd).length (Sv.fl (jA L nd)):=by
      have h:Sv.Own _ wr (M nd) (jA L nd):=(PK.out.rows nd).below fb.out;rw[hu] at h;exact h
     have hlk:(J5 279 (.map (Z (w.heap.size+1))) (I nd) false).run be wr=.ok (U (Z ⟨g,0,Y⟩) (jA L nd).length cu) wr:=by rw[<- hu];exact(PK.out.map.below fb.out).look GS
     have HNW:Hid (∀j u,(Sv.fl (jA L nd))[j]?=Z u->wr.cell? (Addr.add ⟨g,0,Y⟩ j)=Z u):=lF hr4;have Es:Hid ((Sv.fl (jA L nd)).length=(jA L nd).length*9):=Sv.cS _;have HON:Hid (∀v' w',wr.ownsRow w3.heap.size 52 9 u11 (fQ (SL.take j) L).length (Sv.fl (fQ (SL.take j) L))->w'.ownsRow w3.heap.size 52 9 v' ((fQ (SL.take j) L).length+(jA L nd).length) (Sv.fl (fQ (SL.take j) L)++Sv.fl (jA L nd))->Sv.Own w3.heap.size w' v' (fQ (SL.take (j+1)) L)):=λv' w' _ h=>by
      rw[o6.out];show w'.ownsRow _ _ _ _ (fQ (SL.take j) L++jA L nd).length _;rw[Ij,Sv.eA];exact h
     clear hu hr4;generalize hof:jA L nd=NL at *;generalize fQ (SL.take j) L=AL at *;generalize hlu:NL.length=lu at *;have Sz:Hid (NL.length=lu):=hlu;clear hof hlu;go_wp2_with (at_builtin;refine wpList_append_own _ rfl _ _ 24 rfl w3.heap.size 52 i0 _ 9 104 OI eP cE gn ga rfl (by omega) _ AL.length (Sv.fl AL) rfl ?hown ⟨g,0,Y⟩ lu cu (Sv.fl NL) rfl ?hl ?hnews (Sv.fL _) ?h63 ?hbytes ?hbase ?_)
     case hown=>exact HO.out
     case hl=>exact Es.out
     case hnews=>exact HNW.out
     case h63=>(unfold Ii;omega)
     case hbytes=>omega
     case hbase=>exact yw
     intro v' w4 r1 r2 r3;have mM:Hid (Sv.Own w3.heap.size w4 v' (fQ (SL.take (j+1)) L)):=HON.out v' w4 HO.out r1;have ia:Hid (Below w3.heap.size w3 w4):=fb.out.grown r2 yw (λk hk=>(HO.out.lt k hk).1);clear r1 r2 r3;go_wp2_with fail;go_roundw
     case rel=>exact⟨j+1,by omega,by go_num,mM,ia⟩
     case measure=>simp[intOf];omega
    .have HOA:Hid (Sv.Own w3.heap.size wr u11 (fQ SL L)):=by
      have h:=HO.out;rw[IW (by rw[HMM.out];omega)] at h;exact h
     have alM:(fQ SL L).length<=1600:=by rw[IW (by rw[HMM.out];omega)] at hAL;exact hAL
     have afR:Hid (∀x∈fQ SL L,x.ok):=λx hx=>by
      obtain⟨n',_,h2⟩:=ON.1 hx;exact afO.out x (Ox.1 h2).1
     have Xz:Hid (Below w.heap.size w wr):=cT.out.trans (fb.out.mono (by omega));clear HO hAL;have afS:Hid (Sv.Sl wr u11 (fQ SL L)):=Sv.fE HOA.out afR.out;generalize hAA:fQ SL L=AL at *;have HAA:Hid (fQ SL L=AL):=hAA;clear hAA;rcases HOA.out.2 with⟨hv,h0⟩|⟨g,c,cur,hv,_,hg,fa,dO,_,aV⟩
     .subst hv
      have hAe:AL=[]:=IX h0;have hA0:AL.length=0:=h0;clear h0;go_wp2_with fail;go_ret;refine⟨_,rfl,?_,Xz.out⟩;rw[Cz.out,HAA.out,hAe];exact⟨Y,0,rfl,λj=>by simpa using Sv.nY,.inl rfl⟩
     .subst hv
      clear hg aV;go_wp2_with fail;go_ret;refine⟨_,rfl,?_,Xz.out⟩;rw[Cz.out,HAA.out];have h:=PH (m:=20) afS.out;rw[show(AL.take 20).length=(min (AL.length:Int) 20).toNat by simp;omega] at h;exact h
end Go.Proofs.YtfidjlcdlakceaaGreatDoor
namespace Go.Proofs.YtfidjlcdlakceaaGreatDoor
open Go.RowKit
theorem yP(here:ByteArray)(ps pm pw:Option Addr)(ns cs nm cm nw cw:Nat)(px py pz ph pq:Int)(name:ByteArray)(t:Int)(s:Sv.ba)(w:World)(hh:here.size<=Ii)(hs:s.node.size<=Ii) :
 Calls be 195 #[Ip (eH here (U ps ns cs) (U pm nm cm) px py pz ph pq (U pw nw cw)),Ip #[I name,O J t,O J 0,O J 0,I ⟨#[]⟩,O J 0,I ⟨#[]⟩],Ip #[I s.node,I s.cF,I s.name,I s.tag,O J s.addr,O J s.port,AT s.aO,O J s.version,AT s.gone]] w λe w'=>∃r:Rc.Rec,e=sh (Il #[Ip #[I r.name,O J r.al,O J r.aE,O J r.addr,I r.text,O J r.port,I r.target],O J (gR here t s)])/\(gR here t s=0->r=iM name here t s)/\Below w.heap.size w w':=by
 obtain⟨nd,cF,CT,tag,ad,po,kT,kU,kV⟩:=s;simp only at hs;by_cases h1:t=1
 .have HE:Hid (gR here t ⟨nd,cF,CT,tag,ad,po,kT,kU,kV⟩=0):=by subst h1;rfl
  have HR:Hid (iM name here t ⟨nd,cF,CT,tag,ad,po,kT,kU,kV⟩=⟨name,1,0,ad,⟨#[]⟩,0,⟨#[]⟩⟩):=by subst h1;rfl
  subst h1;go_enter Tryz.func195,Tryz.ntmps195;go_wp2_with fail;refine Iy (v:=Il #[Ip #[I name,O J 1,O J 0,O J ad,I ⟨#[]⟩,O J 0,I ⟨#[]⟩],O J 0]) ?_ rfl ⟨⟨name,1,0,ad,⟨#[]⟩,0,⟨#[]⟩⟩,by rw[HE.out],λ_=>HR.out.symm,?_⟩
  .simp[results,Ua,go_sem]
  .exact((((Ia _ _).alloc (By _) _).alloc (by simp) _).alloc (by simp<;>omega) _).alloc (by simp<;>omega) _
 .by_cases h16:t=16
  .have HE:Hid (gR here t ⟨nd,cF,CT,tag,ad,po,kT,kU,kV⟩=0):=by subst h16;rfl
   have HR:Hid (iM name here t ⟨nd,cF,CT,tag,ad,po,kT,kU,kV⟩=⟨name,16,0,0,cF,0,⟨#[]⟩⟩):=by subst h16;rfl
   subst h16;clear h1;go_enter Tryz.func195,Tryz.ntmps195;go_wp2_with fail;refine Iy (v:=Il #[Ip #[I name,O J 16,O J 0,O J 0,I cF,O J 0,I ⟨#[]⟩],O J 0]) ?_ rfl ⟨⟨name,16,0,0,cF,0,⟨#[]⟩⟩,by rw[HE.out],λ_=>HR.out.symm,?_⟩
   .simp[results,Ua,go_sem]
   .exact((((Ia _ _).alloc (By _) _).alloc (by simp) _).alloc (by simp<;>omega) _).alloc (by simp<;>omega) _
  .by_cases h33:t=33
   .have HE:Hid (gR here t ⟨nd,cF,CT,tag,ad,po,kT,kU,kV⟩=iY (qN nd here)):=by subst h33;rfl
    have HR:Hid (iM name here t ⟨nd,cF,CT,tag,ad,po,kT,kU,kV⟩=⟨name,33,0,0,⟨#[]⟩,po,kK (qN nd here)⟩):=by subst h33;rfl
    have HP:Hid (∀W,Calls be 8 #[Ip #[I ⟨#[]⟩,I ⟨#[]⟩,I nd,I here]] W λe w'=>e=sh (Il #[I (kK (qN nd here)),O J (iY (qN nd here))])/\Below W.heap.size W w'):=λW=>mq (qN nd here) W ⟨by show(O5 #[]).size<=Ii;decide,by show(O5 #[]).size<=Ii;decide,hs,hh⟩;subst h33;clear h1 h16;generalize iY (qN nd here)=PE at *;generalize kK (qN nd here)=PS at *;go_enter Tryz.func195,Tryz.ntmps195;go_wp2_with fail;obtain⟨W,hW⟩:∃W,W=(((w.alloc (AI (eH here (U ps ns cs) (U pm nm cm) px py pz ph pq (U pw nw cw)) 137)).alloc (AI #[I name,O J 33,O J 0,O J 0,I ⟨#[]⟩,O J 0,I ⟨#[]⟩] 64)).alloc (AI #[I nd,I cF,I CT,I tag,O J ad,O J po,AT kT,O J kU,AT kV] 52)).alloc (AI #[I ⟨#[]⟩,O J 0,O J 0,O J 0,I ⟨#[]⟩,O J 0,I ⟨#[]⟩] 64):=⟨_,rfl⟩;rw[<- hW];have eG:Below w.heap.size w W:=by rw[hW];exact((((Ia _ _).alloc (By _) _).alloc (by simp) _).alloc (by simp<;>omega) _).alloc (by simp<;>omega) _
    have bf:W.heap[w.heap.size+1]?=Z (AI #[I name,O J 33,O J 0,O J 0,I ⟨#[]⟩,O J 0,I ⟨#[]⟩] 64 (0,0)):=by
     rw[hW,It _ _ _ (by simp<;>omega),It _ _ _ (by simp)];have h:=Ie (w.alloc (AI (eH here (U ps ns cs) (U pm nm cm) px py pz ph pq (U pw nw cw)) 137)) (AI #[I name,O J 33,O J 0,O J 0,I ⟨#[]⟩,O J 0,I ⟨#[]⟩] 64);simpa using h
    have iQ:W.heap[w.heap.size+2]?=Z (AI #[I nd,I cF,I CT,I tag,O J ad,O J po,AT kT,O J kU,AT kV] 52 (0,0)):=by
     rw[hW,It _ _ _ (by simp)];have h:=Ie ((w.alloc (AI (eH here (U ps ns cs) (U pm nm cm) px py pz ph pq (U pw nw cw)) 137)).alloc (AI #[I name,O J 33,O J 0,O J 0,I ⟨#[]⟩,O J 0,I ⟨#[]⟩] 64)) (AI #[I nd,I cF,I CT,I tag,O J ad,O J po,AT kT,O J kU,AT kV] 52);simpa using h
    have xJ:W.heap[w.heap.size+3]?=Z (AI #[I ⟨#[]⟩,O J 0,O J 0,O J 0,I ⟨#[]⟩,O J 0,I ⟨#[]⟩] 64 (0,0)):=by
     rw[hW];have h:=Ie (((w.alloc (AI (eH here (U ps ns cs) (U pm nm cm) px py pz ph pq (U pw nw cw)) 137)).alloc (AI #[I name,O J 33,O J 0,O J 0,I ⟨#[]⟩,O J 0,I ⟨#[]⟩] 64)).alloc (AI #[I nd,I cF,I CT,I tag,O J ad,O J po,AT kT,O J kU,AT kV] 52)) (AI #[I ⟨#[]⟩,O J 0,O J 0,O J 0,I ⟨#[]⟩,O J 0,I ⟨#[]⟩] 64);simpa using h
    have pY:w.heap.size+4<=W.heap.size:=by rw[hW];simp
    clear hW;refine(HP.out _).mono ?_;rintro e w1 ⟨rfl,an⟩;have k1:w1.heap[w.heap.size+1]?=_:=(an.block _ (by omega)).trans bf;have k2:w1.heap[w.heap.size+2]?=_:=(an.block _ (by omega)).trans iQ;have k3:w1.heap[w.heap.size+3]?=_:=(an.block _ (by omega)).trans xJ;have HB:Hid (Below w.heap.size w w1):=eG.trans (an.mono (by omega));have l0:w1.cell? ⟨w.heap.size+1,0,Y⟩=Z (I name):=af k1 0;have zl0:w1.frozen? ⟨w.heap.size+1,0,Y⟩=false:=by simp[Ih,k1]
    have l1:w1.cell? ⟨w.heap.size+1,1,Y⟩=Z (O J 33):=af k1 1;have zl1:w1.frozen? ⟨w.heap.size+1,1,Y⟩=false:=by simp[Ih,k1]
    have l2:w1.cell? ⟨w.heap.size+1,2,Y⟩=Z (O J 0):=af k1 2;have zl2:w1.frozen? ⟨w.heap.size+1,2,Y⟩=false:=by simp[Ih,k1]
    have l3:w1.cell? ⟨w.heap.size+1,3,Y⟩=Z (O J 0):=af k1 3;have zl3:w1.frozen? ⟨w.heap.size+1,3,Y⟩=false:=by simp[Ih,k1]
    have l4:w1.cell? ⟨w.heap.size+1,4,Y⟩=Z (I ⟨#[]⟩):=af k1 4;have zl4:w1.frozen? ⟨w.heap.size+1,4,Y⟩=false:=by simp[Ih,k1]
    have l5:w1.cell? ⟨w.heap.size+1,5,Y⟩=Z (O J 0):=af k1 5;have zl5:w1.frozen? ⟨w.heap.size+1,5,Y⟩=false:=by simp[Ih,k1]
    have l6:w1.cell? ⟨w.heap.size+1,6,Y⟩=Z (I ⟨#[]⟩):=af k1 6;have zl6:w1.frozen? ⟨w.heap.size+1,6,Y⟩=false:=by simp[Ih,k1]
    have s0:w1.cell? ⟨w.heap.size+2,0,Y⟩=Z (I nd):=af k2 0;have s1:w1.cell? ⟨w.heap.size+2,1,Y⟩=Z (I cF):=af k2 1;have s2:w1.cell? ⟨w.heap.size+2,2,Y⟩=Z (I CT):=af k2 2;have s3:w1.cell? ⟨w.heap.size+2,3,Y⟩=Z (I tag):=af k2 3;have s4:w1.cell? ⟨w.heap.size+2,4,Y⟩=Z (O J ad):=af k2 4;have s5:w1.cell? ⟨w.heap.size+2,5,Y⟩=Z (O J po):=af k2 5;have s6:w1.cell? ⟨w.heap.size+2,6,Y⟩=Z (AT kT):=af k2 6;have s7:w1.cell? ⟨w.heap.size+2,7,Y⟩=Z (O J kU):=af k2 7;have s8:w1.cell? ⟨w.heap.size+2,8,Y⟩=Z (AT kV):=af k2 8;have r0:w1.cell? ⟨w.heap.size+3,0,Y⟩=Z (I ⟨#[]⟩):=af k3 0;have zr0:w1.frozen? ⟨w.heap.size+3,0,Y⟩=false:=by simp[Ih,k3]
    have r1:w1.cell? ⟨w.heap.size+3,1,Y⟩=Z (O J 0):=af k3 1;have zr1:w1.frozen? ⟨w.heap.size+3,1,Y⟩=false:=by simp[Ih,k3]
    have r2:w1.cell? ⟨w.heap.size+3,2,Y⟩=Z (O J 0):=af k3 2;have zr2:w1.frozen? ⟨w.heap.size+3,2,Y⟩=false:=by simp[Ih,k3]
    have r3:w1.cell? ⟨w.heap.size+3,3,Y⟩=Z (O J 0):=af k3 3;have zr3:w1.frozen? ⟨w.heap.size+3,3,Y⟩=false:=by simp[Ih,k3]
    have r4:w1.cell? ⟨w.heap.size+3,4,Y⟩=Z (I ⟨#[]⟩):=af k3 4;have zr4:w1.frozen? ⟨w.heap.size+3,4,Y⟩=false:=by simp[Ih,k3]
    have r5:w1.cell? ⟨w.heap.size+3,5,Y⟩=Z (O J 0):=af k3 5;have zr5:w1.frozen? ⟨w.heap.size+3,5,Y⟩=false:=by simp[Ih,k3]
    have r6:w1.cell? ⟨w.heap.size+3,6,Y⟩=Z (I ⟨#[]⟩):=af k3 6;have zr6:w1.frozen? ⟨w.heap.size+3,6,Y⟩=false:=by simp[Ih,k3]
    clear eG bf iQ xJ an pY k1 k2 k3;by_cases h0:PE=0
    .subst h0
     go_wp2_with fail;refine Iy (v:=Il #[Ip #[I name,O J 33,O J 0,O J 0,I ⟨#[]⟩,O J po,I PS],O J 0]) ?_ rfl ⟨⟨name,33,0,0,⟨#[]⟩,po,PS⟩,by rw[HE.out],λ_=>HR.out.symm,?_⟩
     .simp[results,Ua,go_sem,r0,r1,r2,r3,r4,r5,r6]
     .exact(((((((((HB.out.setCell (p:=⟨w.heap.size+1,5,Y⟩) (by simp<;>omega) _).setCell (p:=⟨w.heap.size+1,6,Y⟩) (by simp<;>omega) _).setCell (p:=⟨w.heap.size+1+1+1,0,Y⟩) (by simp<;>omega) _).setCell (p:=⟨w.heap.size+1+1+1,1,Y⟩) (by simp<;>omega) _).setCell (p:=⟨w.heap.size+1+1+1,2,Y⟩) (by simp<;>omega) _).setCell (p:=⟨w.heap.size+1+1+1,3,Y⟩) (by simp<;>omega) _).setCell (p:=⟨w.heap.size+1+1+1,4,Y⟩) (by simp<;>omega) _).setCell (p:=⟨w.heap.size+1+1+1,5,Y⟩) (by simp<;>omega) _).setCell (p:=⟨w.heap.size+1+1+1,6,Y⟩) (by simp<;>omega) _)
    .have h0':(PE !=0)=true:=by simpa using h0
     go_wp2_with fail;refine Iy (v:=Il #[Ip #[I ⟨#[]⟩,O J 0,O J 0,O J 0,I ⟨#[]⟩,O J 0,I ⟨#[]⟩],O J PE]) ?_ rfl ⟨⟨⟨#[]⟩,0,0,0,⟨#[]⟩,0,⟨#[]⟩⟩,by rw[HE.out],λh=>absurd (HE.out.symm.trans h) h0,?_⟩
     .simp[results,Ua,go_sem,r0,r1,r2,r3,r4,r5,r6]
     .exact(((((((HB.out.setCell (p:=⟨w.heap.size+1+1+1,0,Y⟩) (by simp<;>omega) _).setCell (p:=⟨w.heap.size+1+1+1,1,Y⟩) (by simp<;>omega) _).setCell (p:=⟨w.heap.size+1+1+1,2,Y⟩) (by simp<;>omega) _).setCell (p:=⟨w.heap.size+1+1+1,3,Y⟩) (by simp<;>omega) _).setCell (p:=⟨w.heap.size+1+1+1,4,Y⟩) (by simp<;>omega) _).setCell (p:=⟨w.heap.size+1+1+1,5,Y⟩) (by simp<;>omega) _).setCell (p:=⟨w.heap.size+1+1+1,6,Y⟩) (by simp<;>omega) _)
   .have HE:Hid (gR here t ⟨nd,cF,CT,tag,ad,po,kT,kU,kV⟩=0):=by show gR _ _ _=0;unfold gR;rw[if_neg h33]
    have HR:Hid (iM name here t ⟨nd,cF,CT,tag,ad,po,kT,kU,kV⟩=⟨name,t,0,0,⟨#[]⟩,0,⟨#[]⟩⟩):=by show iM _ _ _ _=_;unfold iM;rw[if_neg h1,if_neg h16,if_neg h33,if_neg h33]
    have g1:(t==1)=false:=by simpa using h1
    have g2:(t==16)=false:=by simpa using h16
    have g3:(t==33)=false:=by simpa using h33
    go_enter Tryz.func195,Tryz.ntmps195;go_wp2_with fail;refine Iy (v:=Il #[Ip #[I name,O J t,O J 0,O J 0,I ⟨#[]⟩,O J 0,I ⟨#[]⟩],O J 0]) ?_ rfl ⟨⟨name,t,0,0,⟨#[]⟩,0,⟨#[]⟩⟩,by rw[HE.out],λ_=>HR.out.symm,?_⟩
    .simp[results,Ua,go_sem]
    .exact((((Ia _ _).alloc (By _) _).alloc (by simp) _).alloc (by simp<;>omega) _).alloc (by simp<;>omega) _
end Go.Proofs.YtfidjlcdlakceaaGreatDoor
namespace Go.Proofs.YtfidjlcdlakceaaGreatDoor
open Go.ChangeShapes Go.WideShapes Go.ChangeAt Go.RowKit
section
variable {H:Type} {enc:TypeId × Value→H} {w:World} {base:Nat} {spare:Nat→Bool} {held:Bool}
end
end Go.Proofs.YtfidjlcdlakceaaGreatDoor
namespace Go.Proofs.YtfidjlcdlakceaaGreatDoor
open Go.RowKit
theorem wR(w:World):xx w (U Y 0 0) []:=⟨Y,0,rfl,λj=>by simp,.inl rfl⟩
def ot(p:Pl)(ms:List Wh.cd)(ns:List ByteArray):Int:=if 100<ms.length\/100<ns.length then 2 else gN (p::(dD ms).map dz)
def ou(p:Pl)(ms:List Wh.cd)(ns:List ByteArray):List ByteArray:=if ot p ms ns=0 then GR p ms ns else[]
theorem LC(p:Pl)(ms:List Wh.cd)(v vn:Value)(ns:List ByteArray)(w:World)(hv:Wh.Sl w v ms)(ht:xx w vn ns) :
 Calls be 243 #[Ip #[O J p.x,O J p.y,O J p.z,O J p.h,O J p.s],v,vn] w λe w'=>∃v',e=sh (Il #[v',O J (ot p ms ns)])/\xx w' v' (ou p ms ns)/\Px w.heap.size w' v'/\Below w.heap.size w w':=by
 obtain⟨a1,c1,oR,_,_⟩:=id hv;obtain⟨a2,c2,Pz,_,_⟩:=id ht;by_cases hm:100<ms.length\/100<ns.length
 .have hE:ot p ms ns=2:=by unfold ot;rw[if_pos hm]
  have hL:ou p ms ns=[]:=by unfold ou;rw[hE];rfl
  rw[hE,hL,oR,Pz];refine(EN p a1 a2 _ _ c1 c2 w hm).mono ?_;rintro e w' ⟨rfl,hb⟩;exact⟨_,rfl,wR _,(λg hg=>by cases hg),hb⟩
 .have hE:ot p ms ns=gN (p::(dD ms).map dz):=by unfold ot;rw[if_neg hm]
  rcases sX (p::(dD ms).map dz) with h0|h3
  .have hL:ou p ms ns=GR p ms ns:=by unfold ou;rw[hE,h0];rfl
   rw[hE,hL,h0];exact E9 p ms v vn ns w hv ht (by omega) (by omega) h0
  .have hL:ou p ms ns=[]:=by unfold ou;rw[hE,h3];rfl
   rw[hE,hL,h3];by_cases hz:ms.length=0
   .have jj:=O6.1 hz
    subst jj;rw[oR,Pz];refine(ER p a1 a2 ns.length c1 c2 w (by omega) h3).mono ?_;rintro e w' ⟨rfl,hb⟩;exact⟨_,rfl,wR _,(λg hg=>by cases hg),hb⟩
   .rw[Pz]
    refine(EO p ms v a2 ns.length c2 w hv (by omega) (by omega) (by omega) h3).mono ?_;rintro e w' ⟨rfl,hb⟩;exact⟨_,rfl,wR _,(λg hg=>by cases hg),hb⟩
theorem LD{p:Pl}{wh:List Wh.cd}(h:20<wh.length):yJ p wh=2:=if_pos h
theorem wS{p:Pl}{wh:List Wh.cd}(h:¬ 20<wh.length):yJ p wh=gN (p::(dD wh).map dz):=if_neg h
theorem LF(p:Pl):bF p=0\/bF p=3:=by unfold bF;split;exact .inl rfl;exact .inr rfl
theorem LG{p:Pl}{wh:List Wh.cd}(h:¬ 20<wh.length)(hp:bF p≠0):yJ p wh=bF p:=by
 rw[wS h,pO (k:=0) (by simp) (by simpa using hp)];rcases LF p with h|h
 .exact absurd h hp
 .exact h.symm
theorem yQ(wh:List Wh.cd)(j:Nat)(hj:j<wh.length):((dD wh).map dz).getD j dp=dz (mH (wh.getD j Wh.dm)):=by
 simp[dD,Io,Ic hj]
theorem VJ{p:Pl}{wh:List Wh.cd}{k:Nat}(h:¬ 20<wh.length)(hk:k<wh.length)(hp:bF (dz (mH (wh.getD k Wh.dm)))≠0):yJ p wh=bF (dz (mH (wh.getD k Wh.dm))):=by
 rw[wS h,pO (k:=k+1) (by simp[dD];omega) (by rw[Jv,yQ wh k hk];exact hp)];rcases LF (dz (mH (wh.getD k Wh.dm))) with h|h
 .exact absurd h hp
 .exact h.symm
theorem LH{p:Pl}{wh:List Wh.cd}(h:¬ 20<wh.length)(hp:bF p=0)(hw:∀j,j<wh.length->bF (dz (mH (wh.getD j Wh.dm)))=0):yJ p wh=0:=by
 rw[wS h,iK];intro j hj;cases j with
 |zero=>simpa using hp
 |succ j=>
  have ua:j<wh.length:=by simpa[dD] using hj
  rw[Jv,yQ wh j ua];exact hw j ua
theorem yR(here:ByteArray)(ps pm pw:Option Addr)(ns cs nm cm nw cw:Nat)(px py pz ph pq:Int)(wh:List Wh.cd)(w:World)(hw:Wh.Sl w (U pw nw cw) wh) :
 Calls be 135 #[Ip (eH here (U ps ns cs) (U pm nm cm) px py pz ph pq (U pw nw cw))] w λe w'=>e=sh (O J (yJ ⟨px,py,pz,ph,pq⟩ wh))/\Below w.heap.size w w':=by
 obtain⟨X9,ca',he,_,ha⟩:=hw;simp only[Value.slice.injEq] at he;obtain⟨rfl,hN,rfl⟩:=he;have HA:Hid (wh=[]\/∃b off,pw=Z ⟨b,off,Y⟩/\b<w.heap.size/\Wh.Row w b off wh):=ha;have HN:Hid (wh.length=nw):=hN.symm;have H1:Hid (20<nw->yJ ⟨px,py,pz,ph,pq⟩ wh=2):=λh=>LD (by rw[HN.out];exact h);have H2:Hid (¬ 20<nw->bF ⟨px,py,pz,ph,pq⟩≠0->yJ ⟨px,py,pz,ph,pq⟩ wh=bF ⟨px,py,pz,ph,pq⟩):=λh=>LG (by rw[HN.out];exact h);have H3:Hid (¬ 20<nw->∀k,k<nw->bF (dz (mH (wh.getD k Wh.dm)))≠0->yJ ⟨px,py,pz,ph,pq⟩ wh=bF (dz (mH (wh.getD k Wh.dm)))):=λh k hk=>VJ (by rw[HN.out];exact h) (by rw[HN.out];exact hk);have H4:Hid (¬ 20<nw->bF ⟨px,py,pz,ph,pq⟩=0->(∀j,j<nw->bF (dz (mH (wh.getD j Wh.dm)))=0)->yJ ⟨px,py,pz,ph,pq⟩ wh=0):=λh h2 h3=>LH (by rw[HN.out];exact h) h2 (λj hj=>h3 j (by rw[<- HN.out];exact hj));have HC:Hid (∀W,Calls be 131 #[Ip #[O J px,O J py,O J pz,O J ph,O J pq]] W λe w'=>e=sh (O J (bF ⟨px,py,pz,ph,pq⟩))/\Below W.heap.size W w'):=λW=>iN ⟨px,py,pz,ph,pq⟩ W;clear ha hN;generalize yJ ⟨px,py,pz,ph,pq⟩ wh=res at *;generalize bF ⟨px,py,pz,ph,pq⟩=cp at *;by_cases hm:20<nw
 .have HR:Hid (res=2):=H1.out hm
  clear H1 H2 H3 H4;go_enter Tryz.func135,Tryz.ntmps135;go_wp2_with fail;go_ret;exact⟨aj HR.out.symm,(Ia _ _).alloc (By _) _⟩
 .have H2':Hid (cp≠0->res=cp):=H2.out hm
  have H3':Hid (∀k,k<nw->bF (dz (mH (wh.getD k Wh.dm)))≠0->res=bF (dz (mH (wh.getD k Wh.dm)))):=H3.out hm;have H4':Hid (cp=0->(∀j,j<nw->bF (dz (mH (wh.getD j Wh.dm)))=0)->res=0):=H4.out hm;clear H1 H2 H3 H4;go_enter Tryz.func135,Tryz.ntmps135;go_wp2_with fail;have eN:Below w.heap.size w (w.alloc (AI (eH here (U ps ns cs) (U pm nm cm) px py pz ph pq (U pw nw cw)) 137)):=(Ia _ _).alloc (By _) _;refine(HC.out _).mono ?_;rintro e w1 ⟨rfl,an⟩;have aK:Hid (Below w.heap.size w w1):=eN.trans (an.mono (by simp));have hg:w1.heap[w.heap.size]?=Z (AI (eH here (U ps ns cs) (U pm nm cm) px py pz ph pq (U pw nw cw)) 137 (0,0)):=(an.block _ (by simp)).trans (Ie w _);have d8:w1.cell? ⟨w.heap.size,8,Y⟩=Z (U pw nw cw):=af hg 8;clear eN an hg;by_cases h0:cp=0
  .have H5:Hid ((∀j,j<nw->bF (dz (mH (wh.getD j Wh.dm)))=0)->res=0):=H4'.out h0
   clear H2' H4';subst h0;go_wp2_with fail;go_loopw [20] (λi wr=>∃k:Nat,k<=nw/\i=O J k/\Hid (Below w.heap.size w wr)/\Hid (∀j,j<k->bF (dz (mH (wh.getD j Wh.dm)))=0)) (λi _=>nw-(intOf i).toNat)
   case atStart=>exact⟨0,IF _,rfl,aK,λj hj=>absurd hj (Nat.not_lt_zero _)⟩
   case round=>
    obtain⟨k,hk,rfl,HB,HZ⟩:=hrel;have bb:=HB.out.size;by_cases aB:k<nw
    .obtain⟨b,off,hZ,dX,hr⟩:∃b off,pw=Z ⟨b,off,Y⟩/\b<w.heap.size/\Wh.Row w b off wh:=by
      rcases HA.out with h|h
      .have:=HN.out;rw[h] at this;simp at this;omega
      .exact h
     subst hZ;obtain⟨c0,c1,c2,c3,c4,c5⟩:=hr.later HB.out dX k (by rw[HN.out];exact aB);clear hr;have fm:Hid (bF (dz (mH (wh.getD k Wh.dm)))=0->∀j,j<k+1->bF (dz (mH (wh.getD j Wh.dm)))=0):=λh j hj=>by
      by_cases e:j=k
      .subst e;exact h
      .exact HZ.out j (by omega)
     have HX:Hid (bF (dz (mH (wh.getD k Wh.dm)))≠0->res=bF (dz (mH (wh.getD k Wh.dm)))):=H3'.out k aB;generalize wh.getD k Wh.dm=m at *;obtain⟨nd,x,y,z,h,s⟩:=m;simp only at c0 c1 c2 c3 c4 c5;have HCW:Hid (∀W,Calls be 131 #[Ip #[O J x,O J y,O J z,O J h,O J s]] W λe w'=>e=sh (O J (bF (dz (mH ⟨nd,x,y,z,h,s⟩))))/\Below W.heap.size W w'):=λW=>iN ⟨x,y,z,h,s⟩ W;generalize bF (dz (mH ⟨nd,x,y,z,h,s⟩))=cw2 at *;go_wp2_with fail;refine(HCW.out _).mono ?_;rintro e w2 ⟨rfl,aD⟩;have bD:Hid (Below w.heap.size w w2):=(HB.out.alloc bb _).trans (aD.mono (by simp<;>omega));clear aD;by_cases hz:cw2=0
     .have jM:=fm.out hz
      have XA:Hid (∀j,j<k+1->bF (dz (mH (wh.getD j Wh.dm)))=0):=jM;clear jM fm HX;subst hz;go_wp2_with fail;go_roundw
      case rel=>exact⟨k+1,by omega,by go_num,bD,XA⟩
      case measure=>simp[intOf];omega
     .have HR:Hid (res=cw2):=HX.out hz
      have RM:(cw2 !=0)=true:=by simpa using hz
      clear fm HX;go_wp2_with fail;go_ret;exact⟨aj HR.out.symm,bD.out⟩
    .have HR:Hid (res=0):=H5.out (λj hj=>HZ.out j (by omega))
     go_wp2_with fail;go_ret;exact⟨aj HR.out.symm,HB.out⟩
  .have HR:Hid (res=cp):=H2'.out h0
   have h0':(cp !=0)=true:=by simpa using h0
   go_wp2_with fail;go_ret;exact⟨aj HR.out.symm,aK.out⟩
theorem Bp(here:ByteArray)(ps pm pw:Option Addr)(ns cs nm cm nw cw:Nat)(px py pz ph pq:Int)(sv:List Sv.ba)(ms:List Mem)(wh:List Wh.cd)(w:World)(hh:here.size<=Ii)(hs:Sv.Sl w (U ps ns cs) sv)(hm:Sl w (U pm nm cm) ms)(hw:Wh.Sl w (U pw nw cw) wh) :
 Calls be 79 #[Ip (eH here (U ps ns cs) (U pm nm cm) px py pz ph pq (U pw nw cw))] w λe w'=>e=sh (O J (Bn here sv ms ⟨px,py,pz,ph,pq⟩ wh))/\Below w.heap.size w w':=by
 have HS:Hid (Sv.Sl w (U ps ns cs) sv):=hs;have HM:Hid (Sl w (U pm nm cm) ms):=hm;have HW:Hid (Wh.Sl w (U pw nw cw) wh):=hw;have HK:Hid (Bn here sv ms ⟨px,py,pz,ph,pq⟩ wh=if aA here=true then(if Sv.aM sv=0 then(if aM ms=0 then yJ ⟨px,py,pz,ph,pq⟩ wh else aM ms) else Sv.aM sv) else 1):=rfl;have CO:Hid (∀W v,Sv.Sl W v sv->Calls be 129 #[v] W λe w'=>e=sh (O J (Sv.aM sv))/\Below W.heap.size W w'):=λW v h=>Sv.aR sv v W h;have HC2:Hid (∀W v,Sl W v ms->Calls be 127 #[v] W λe w'=>e=sh (O J (aM ms))/\Below W.heap.size W w'):=λW v h=>aR ms v W h;have HC3:Hid (∀W,Wh.Sl W (U pw nw cw) wh->Calls be 135 #[Ip (eH here (U ps ns cs) (U pm nm cm) px py pz ph pq (U pw nw cw))] W λe w'=>e=sh (O J (yJ ⟨px,py,pz,ph,pq⟩ wh))/\Below W.heap.size W w'):=λW h=>yR here ps pm pw ns cs nm cm nw cw px py pz ph pq wh W h;clear hs hm hw;generalize Bn here sv ms ⟨px,py,pz,ph,pq⟩ wh=res at *;generalize yJ ⟨px,py,pz,ph,pq⟩ wh=pe at *;generalize Sv.aM sv=ce at *;generalize aM ms=me at *;have aL:∀W,Calls be 65 #[I here] W λe w'=>e=sh (AT (aA here))/\w'=W:=λW=>aW here W hh;rcases hl:aA here with _|_
 .have HR:Hid (res=1):=HK.out.trans (by rw[hl];rfl)
  rw[hl] at aL;go_enter Tryz.func79,Tryz.ntmps79;go_wp2_with fail;refine(aL _).mono ?_;rintro e w' ⟨rfl,rfl⟩;go_wp2_with fail;go_ret;exact⟨aj HR.out.symm,(Ia _ _).alloc (By _) _⟩
 .have jY:Hid (res=if ce=0 then(if me=0 then pe else me) else ce):=HK.out.trans (by rw[hl];rfl)
  rw[hl] at aL;clear HK;go_enter Tryz.func79,Tryz.ntmps79;go_wp2_with fail;refine(aL _).mono ?_;rintro e w' ⟨rfl,rfl⟩;have eN:Below w.heap.size w (w.alloc (AI (eH here (U ps ns cs) (U pm nm cm) px py pz ph pq (U pw nw cw)) 137)):=(Ia _ _).alloc (By _) _;go_wp2_with fail;refine(CO.out _ _ (HS.out.below eN)).mono ?_;rintro e w1 ⟨rfl,an⟩;have aK:Hid (Below w.heap.size w w1):=eN.trans (an.mono (by simp));have hg:w1.heap[w.heap.size]?=Z (AI (eH here (U ps ns cs) (U pm nm cm) px py pz ph pq (U pw nw cw)) 137 (0,0)):=(an.block _ (by simp)).trans (Ie w _);have d0:w1.cell? ⟨w.heap.size,0,Y⟩=Z (I here):=af hg 0;have d1:w1.cell? ⟨w.heap.size,1,Y⟩=Z (U ps ns cs):=af hg 1;have d2:w1.cell? ⟨w.heap.size,2,Y⟩=Z (U pm nm cm):=af hg 2;have d3:w1.cell? ⟨w.heap.size,3,Y⟩=Z (O J px):=af hg 3;have d4:w1.cell? ⟨w.heap.size,4,Y⟩=Z (O J py):=af hg 4;have d5:w1.cell? ⟨w.heap.size,5,Y⟩=Z (O J pz):=af hg 5;have d6:w1.cell? ⟨w.heap.size,6,Y⟩=Z (O J ph):=af hg 6;have d7:w1.cell? ⟨w.heap.size,7,Y⟩=Z (O J pq):=af hg 7;have d8:w1.cell? ⟨w.heap.size,8,Y⟩=Z (U pw nw cw):=af hg 8;have ji:Hid (w1.heap[w.heap.size]?=Z (AI (eH here (U ps ns cs) (U pm nm cm) px py pz ph pq (U pw nw cw)) 137 (0,0))):=hg;have VK:w.heap.size<w1.heap.size:=(Ib.1 hg).1;clear eN an hg;by_cases h1:ce=0
  .have nF:Hid (res=if me=0 then pe else me):=jY.out.trans (if_pos h1)
   clear jY;subst h1;go_wp2_with fail;refine(HC2.out _ _ (HM.out.below aK.out)).mono ?_;rintro e w2 ⟨rfl,aD⟩;have bD:Hid (Below w.heap.size w w2):=aK.out.trans (aD.mono (by omega));have hg:w2.heap[w.heap.size]?=Z (AI (eH here (U ps ns cs) (U pm nm cm) px py pz ph pq (U pw nw cw)) 137 (0,0)):=(aD.block _ (by omega)).trans ji.out;clear d0 d1 d2 d3 d4 d5 d6 d7 d8;have d0:w2.cell? ⟨w.heap.size,0,Y⟩=Z (I here):=af hg 0;have d1:w2.cell? ⟨w.heap.size,1,Y⟩=Z (U ps ns cs):=af hg 1;have d2:w2.cell? ⟨w.heap.size,2,Y⟩=Z (U pm nm cm):=af hg 2;have d3:w2.cell? ⟨w.heap.size,3,Y⟩=Z (O J px):=af hg 3;have d4:w2.cell? ⟨w.heap.size,4,Y⟩=Z (O J py):=af hg 4;have d5:w2.cell? ⟨w.heap.size,5,Y⟩=Z (O J pz):=af hg 5;have d6:w2.cell? ⟨w.heap.size,6,Y⟩=Z (O J ph):=af hg 6;have d7:w2.cell? ⟨w.heap.size,7,Y⟩=Z (O J pq):=af hg 7;have d8:w2.cell? ⟨w.heap.size,8,Y⟩=Z (U pw nw cw):=af hg 8;clear aD hg ji;by_cases h2:me=0
   .have tX:Hid (res=pe):=nF.out.trans (if_pos h2)
    subst h2;clear nF;go_wp2_with fail;refine(HC3.out _ (HW.out.below bD.out)).mono ?_;rintro e w3 ⟨rfl,bn⟩;have cT:Hid (Below w.heap.size w w3):=bD.out.trans (bn.mono bD.out.size);clear bn;go_wp2_with fail;go_ret;exact⟨aj tX.out.symm,cT.out⟩
   .have HR:Hid (res=me):=nF.out.trans (if_neg h2)
    have vB:(me !=0)=true:=by simpa using h2
    go_wp2_with fail;go_ret;exact⟨aj HR.out.symm,bD.out⟩
  .have HR:Hid (res=ce):=jY.out.trans (if_neg h1)
   have GN:(ce !=0)=true:=by simpa using h1
   go_wp2_with fail;go_ret;exact⟨aj HR.out.symm,aK.out⟩
end Go.Proofs.YtfidjlcdlakceaaGreatDoor
