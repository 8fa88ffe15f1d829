import Derived.Test.YtfidhgjmifendaaGreatDoorng2
set_option maxHeartbeats 1000000
set_option maxRecDepth 100000
open ByteArray renaming empty→Iw
open Go renaming maxLen→Io,cell_regrown→Ig,info_parts→I6,wpList_append_own→Ja
open Go.Value renaming string→Y,int→U,bool→Ia,slice→J,agg→Ik,ownBlock→Jx
open Go.IntKind renaming i64→O,wrap_i64→IY
open Option renaming none→be,some→AI
open List renaming length_append→Ih,length_cons→Iz,set_cons_succ→Oq,getElem?_take_of_lt→IM,getElem_of_mem→I3,getD→Iq,getElem?_eq_getElem→Ie,length_take→IB,append_assoc→Ip,getD_cons_zero→I2,getD_cons_succ→Jz,mem_cons→IQ,pairwise_cons→JD,rel_of_pairwise_cons→JG,foldl_cons→OA
open Go.Obj renaming cells→By
open Array renaming getElem?_eq_some_iff→BY,length_toList→IS
open Go.World.ownsRow renaming lt→OI,stored→IK
open Go.Proofs.Tryz renaming prog→AS,underlying36→J5
open Go.Ending renaming returned→AT
open Go.Act renaming eval→No,put→Om
open Bool renaming true_and→QV,and_eq_true→IW
open Nat renaming le_refl→Ic
namespace Go.Proofs.YtfidhgjmifendaaGreatDoor
open Go.RowKit
theorem Ey(a:ByteArray):bO a a=0:=(bR a a).2 rfl
theorem Ez(a b:ByteArray):0<bO a b↔bO b a<0:=by rw[mW,fC]
theorem BF(a b c:ByteArray)(h1:bO a b<0)(h2:bO b c<0):bO a c<0:=by
 rw[fC] at *;exact fY h1 h2
namespace RL
section
variable {α:Type}
theorem jC(f:α->ByteArray):Keyed λa b=>bO (f a) (f b) where
 refl a:=Ey _
 gt a b:=Ez _ _
 trans a b c h1 h2:=BF _ _ _ h1 h2
 left a b c h:=by rw[(bR _ _).1 h]
 right a b c h:=by rw[(bR _ _).1 h]
theorem iA(f:α->Int):Keyed λa b=>f a-f b where
 refl a:=by omega
 gt a b:=by constructor<;>intro h<;>omega
 trans a b c h1 h2:=by omega
 left a b c h:=by omega
 right a b c h:=by omega
def bI(b:Bool):Int:=if b=true then 1 else 0
theorem BG{a b:Bool}(h:bI a-bI b=0):a=b:=by cases a<;>cases b<;>simp[bI] at h ⊢
def lex(o p:α->α->Int)(a b:α):Int:=if o a b=0 then p a b else o a b
theorem gD{o p:α->α->Int}(h:Keyed o)(k:Keyed p):Keyed (lex o p) where
 refl a:=by rw[lex,if_pos (h.refl a),k.refl a]
 gt a b:=by
  unfold lex;by_cases e:o a b=0
  .rw[if_pos e,if_pos (h.symm e)];exact k.gt a b
  .rw[if_neg e,if_neg (λe2=>e (h.symm e2))];exact h.gt a b
 trans a b c h1 h2:=by
  unfold lex at *;by_cases e:o a b=0
  .rw[if_pos e] at h1
   by_cases e2:o b c=0
   .rw[if_pos e2] at h2
    rw[if_pos (h.Gd e e2)];exact k.trans _ _ _ h1 h2
   .rw[if_neg e2] at h2
    rw[if_neg (λe3=>e2 (h.Gd (h.symm e) e3)),h.left a b c e];exact h2
  .rw[if_neg e] at h1
   by_cases e2:o b c=0
   .rw[if_neg (λe3=>e (h.Gd e3 (h.symm e2))),<- h.right b c a e2];exact h1
   .rw[if_neg e2] at h2
    have h3:=h.trans _ _ _ h1 h2;rw[if_neg (by omega)];exact h3
 left a b c e:=by
  unfold lex at *;by_cases e1:o a b=0
  .rw[if_pos e1] at e
   rw[h.left a b c e1,k.left a b c e]
  .rw[if_neg e1] at e;exact absurd e e1
 right a b c e:=by
  unfold lex at *;by_cases e1:o a b=0
  .rw[if_pos e1] at e
   rw[h.right a b c e1,k.right a b c e]
  .rw[if_neg e1] at e;exact absurd e e1
theorem fT{o p:α->α->Int}{a b:α}(h:lex o p a b=0):o a b=0/\p a b=0:=by
 unfold lex at h;by_cases e:o a b=0
 .rw[if_pos e] at h;exact⟨e,h⟩
 .rw[if_neg e] at h;exact absurd h e
theorem vP{o p:α->α->Int}(k:Keyed p)(hz:∀a b,o a b=0->p a b=0->a=b):qe o λa b=>decide (0<p a b) where
 irrefl a:=by simp[k.refl a]
 trans a b c h1 h2:=by
  rw[decide_eq_true_eq] at *;rw[k.gt] at *;exact k.trans _ _ _ h2 h1
 total a b e h1 h2:=by
  rw[decide_eq_false_iff_not] at *;refine hz a b e ?_;have:=k.gt b a;omega
end
end RL
end Go.Proofs.YtfidhgjmifendaaGreatDoor
namespace Go.Proofs.YtfidhgjmifendaaGreatDoor
namespace Sv
open Go.RowKit
structure aW where
 node:ByteArray
 bq:ByteArray
 name:ByteArray
 tag:ByteArray
 addr:Int
 port:Int
 aj:Bool
 version:Int
 gone:Bool
def dm:aW:=⟨Iw,Iw,Iw,Iw,0,0,false,0,false⟩
def aW.ok(m:aW):Prop:=m.node.size<=Io/\m.bq.size<=Io/\m.name.size<=Io/\m.tag.size<=Io
theorem sx:dm.ok:=by simp[aW.ok,dm]
abbrev As(w:World)(b o:Nat)(m:aW):Prop:=w.cell? ⟨b,o,be⟩=AI (Y m.node)/\w.cell? ⟨b,o+1,be⟩=AI (Y m.bq)/\w.cell? ⟨b,o+2,be⟩=AI (Y m.name)/\w.cell? ⟨b,o+3,be⟩=AI (Y m.tag)/\w.cell? ⟨b,o+4,be⟩=AI (U O m.addr)/\w.cell? ⟨b,o+5,be⟩=AI (U O m.port)/\w.cell? ⟨b,o+6,be⟩=AI (Ia m.aj)/\w.cell? ⟨b,o+7,be⟩=AI (U O m.version)/\w.cell? ⟨b,o+8,be⟩=AI (Ia m.gone)
theorem As.re{w:World}{b o:Nat}{m:aW}(h:As w b o m):∀d os,As (Go.Sort.grow (redrawn w d) os) b o m:=λd os=>by
 obtain⟨c0,c1,c2,c3,c4,c5,c6,c7,c8⟩:=h;exact⟨Ig c0 d os,Ig c1 d os,Ig c2 d os,Ig c3 d os,Ig c4 d os,Ig c5 d os,Ig c6 d os,Ig c7 d os,Ig c8 d os⟩
theorem As.eq{w w':World}{b o:Nat}{m:aW}(h:As w b o m)(e:∀o,w'.cell? ⟨b,o,be⟩=w.cell? ⟨b,o,be⟩):As w' b o m:=by
 obtain⟨c0,c1,c2,c3,c4,c5,c6,c7,c8⟩:=h;exact⟨(e _).trans c0,(e _).trans c1,(e _).trans c2,(e _).trans c3,(e _).trans c4,(e _).trans c5,(e _).trans c6,(e _).trans c7,(e _).trans c8⟩
def Row(w:World)(b off:Nat)(ms:List aW):Prop:=∀j,j<ms.length->As w b (off+j*9) (ms.getD j dm)
def Sl(w:World)(v:Value)(ms:List aW):Prop:=
 ∃(a:Option Addr) (cap:Nat),v=J a ms.length cap/\(∀j,(ms.getD j dm).ok) /\
  (ms=[]\/∃b off,a=AI ⟨b,off,be⟩/\b<w.heap.size/\Row w b off ms)
def aW.cs(m:aW):List Value:=[Y m.node,Y m.bq,Y m.name,Y m.tag,U O m.addr,U O m.port,Ia m.aj,U O m.version,Ia m.gone]
def fl(ms:List aW):List Value:=ms.flatMap aW.cs
theorem bB(m:aW):m.cs.length=9:=rfl
theorem aZ(m:aW)(r:List aW):fl (m::r)=m.cs++fl r:=by simp[fl]
theorem cD(a b:List aW):fl (a++b)=fl a++fl b:=by simp[fl]
theorem cM:∀ms:List aW,(fl ms).length=ms.length*9
 |[]=>rfl
 |m::r=>by rw[aZ,Ih,cM r,bB,Iz];omega
theorem eY:∀(ms:List aW) (i:Nat),(fl ms).take (i*9)=fl (ms.take i)
 |[],i=>by simp[fl]
 |m::r,0=>by simp[fl]
 |m::r,i+1=>by
  rw[aZ,List.take_succ_cons,aZ,show(i+1)*9=m.cs.length+i*9 by rw[bB];omega,List.take_length_add_append,eY r i]
theorem eZ:∀(ms:List aW) (i:Nat),(fl ms).drop (i*9)=fl (ms.drop i)
 |[],i=>by simp[fl]
 |m::r,0=>by simp
 |m::r,i+1=>by
  rw[aZ,List.drop_succ_cons,show(i+1)*9=m.cs.length+i*9 by rw[bB];omega,List.drop_length_add_append,eZ r i]
theorem db(m:aW):∀v∈m.cs,v.oneCell'=true:=by
 intro v hv;simp[aW.cs] at hv;rcases hv with rfl|rfl|rfl|rfl|rfl|rfl|rfl|rfl|rfl<;>rfl
theorem gJ(ms:List aW):∀v∈fl ms,v.oneCell'=true:=by
 intro v hv;obtain⟨m,_,h⟩:=List.mem_flatMap.1 hv;exact db m v h
theorem ec(ms:List aW)(j:Nat)(hj:j<ms.length)(t:Nat)(ht:t<9):(fl ms)[j*9+t]?=(ms.getD j dm).cs[t]?:=by
 induction ms generalizing j with
 |nil=>simp at hj
 |cons m r ih=>
  rw[aZ];cases j with
  |zero=>rw[List.getElem?_append_left (by rw[bB];omega)];simp
  |succ j=>
   rw[List.getElem?_append_right (by rw[bB];omega),bB,show(j+1)*9+t-9=j*9+t by omega,ih j (by simpa using hj)];simp
theorem nQ(ms:List aW)(p:Nat)(hp:p<ms.length)(m:aW):((((((((((fl ms).set (p*9) (Y m.node)).set (p*9+1) (Y m.bq)).set (p*9+2) (Y m.name)).set (p*9+3) (Y m.tag)).set (p*9+4) (U O m.addr)).set (p*9+5) (U O m.port)).set (p*9+6) (Ia m.aj)).set (p*9+7) (U O m.version)).set (p*9+8) (Ia m.gone))=fl (ms.set p m):=by
 induction ms generalizing p with
 |nil=>simp at hp
 |cons x r ih=>
  cases p with
  |zero=>simp[fl,aW.cs]
  |succ p=>
   have Mj:=ih p (by simpa using hp);rw[Oq,aZ,aZ,<- Mj];simp only[Nat.add_mul,Nat.one_mul];have e:∀(l:List Value) (k:Nat) (v:Value),(x.cs++l).set (k+9) v=x.cs++l.set k v:=λl k v=>by
    rw[List.set_append,if_neg (by rw[bB];omega),bB,Nat.add_sub_cancel]
   have c:∀i:Nat,p*9+9+i=(p*9+i)+9:=λi=>by omega
   simp only[c];rw[e,e,e,e,e,e,e,e,e]
abbrev Own(base:Nat)(w:World)(v:Value)(ms:List aW):Prop:=w.ownsRow base 46 9 v ms.length (fl ms)
theorem ic{base g G:Nat}{w:World}{cur:Array Value}{ms:List aW}(hb:base<=g)(hg:w.heap[g]?=AI (By cur 46 (0,0)))(hs:cur.size=G*9)(hn:ms.length<=G)(hG:G<=Io)(ht:cur.toList.take (ms.length*9)=fl ms) :
 Own base w (J (AI ⟨g,0,be⟩) ms.length G) ms:=⟨cM ms,.inr ⟨g,G,cur,rfl,hb,hg,hn,hG,hs,ht⟩⟩
theorem Own.sl{base:Nat}{w:World}{v:Value}{ms:List aW}(h:Own base w v ms)(hs:∀j,(ms.getD j dm).ok):Sl w v ms:=by
 rcases h.2 with⟨rfl,h0⟩|⟨g,c,cur,rfl,ey,hg,fK,dN,bZ,bf⟩
 .exact⟨be,0,by rw[h0],hs,.inl (List.eq_nil_of_length_eq_zero h0)⟩
 .refine⟨_,c,rfl,hs,.inr ⟨g,0,rfl,(BY.1 hg).1,λj hj=>?_⟩⟩
  have hc:∀t,t<9->w.cell? ⟨g,0+j*9+t,be⟩=(ms.getD j dm).cs[t]?:=λt ht=>by
   rw[ae hg,<- ec ms j hj t ht,<- bf,IM (by omega)];simp
  exact⟨hc 0 (by omega),hc 1 (by omega),hc 2 (by omega),hc 3 (by omega),hc 4 (by omega),hc 5 (by omega),hc 6 (by omega),hc 7 (by omega),hc 8 (by omega)⟩
theorem Own.below{base:Nat}{w w':World}{v:Value}{ms:List aW}(h:Own base w v ms)(hb:Below w.heap.size w w'):Own base w' v ms:=by
 rcases h.2 with⟨rfl,h0⟩|⟨g,c,cur,rfl,ey,hg,fK,dN,bZ,bf⟩
 .exact⟨h.1,.inl ⟨rfl,h0⟩⟩
 .have aR:=(BY.1 hg).1
  exact⟨h.1,.inr ⟨g,c,cur,rfl,ey,(hb.block g aR).trans hg,fK,dN,bZ,bf⟩⟩
theorem Own.lt{base:Nat}{w:World}{v:Value}{ms:List aW}(h:Own base w v ms)(k:Nat)(hk:v.ownBlock=AI k):base<=k/\k<w.heap.size:=OI h k hk
theorem fe{base:Nat}{w w1 w2:World}{v:Value}{ms:List aW}(hb:Below base w w1)(h:Own base w1 v ms)(hg:w1.grownBy w2 v.ownBlock)(hbase:base<=w1.heap.size):Below base w w2:=
 hb.grown hg hbase (λk hk=>(h.lt k hk).1)
theorem ez{base g c:Nat}{w:World}{ms:List aW}(h:Own base w (J (AI ⟨g,0,be⟩) ms.length c) ms)(j:Nat)(hj:j<ms.length) :
 As w g (j*9) (ms.getD j dm):=by
 rcases h.2 with⟨h1,_⟩|⟨g',c',cur,h1,ey,hg,fK,dN,bZ,bf⟩
 .cases h1
 .simp only[Value.slice.injEq,Option.some.injEq,Addr.mk.injEq] at h1
  obtain⟨⟨rfl,_,_⟩,_,_⟩:=h1;have hc:∀t,t<9->w.cell? ⟨g,j*9+t,be⟩=(ms.getD j dm).cs[t]?:=λt ht=>by
   rw[ae hg,<- ec ms j hj t ht,<- bf,IM (by omega)];simp
  exact⟨hc 0 (by omega),hc 1 (by omega),hc 2 (by omega),hc 3 (by omega),hc 4 (by omega),hc 5 (by omega),hc 6 (by omega),hc 7 (by omega),hc 8 (by omega)⟩
theorem jH{base:Nat}{w:World}{v:Value}{ms:List aW}(h:Own base w v ms)(p:Nat)(hp:p<ms.length):∃g c,v=J (AI ⟨g,0,be⟩) ms.length c:=by
 rcases h.2 with⟨_,h0⟩|⟨g,c,cur,h1,_⟩
 .omega
 .exact⟨g,c,h1⟩
theorem lq{base g c p:Nat}{W:World}{ms:List aW}(h:Own base W (J (AI ⟨g,0,be⟩) ms.length c) ms)(hp:p<ms.length)(m:aW) :
 Own base (((((((((W.setCell ⟨g,p*9,be⟩ (Y m.node)).setCell ⟨g,p*9+1,be⟩ (Y m.bq)).setCell ⟨g,p*9+2,be⟩ (Y m.name)).setCell ⟨g,p*9+3,be⟩ (Y m.tag)).setCell ⟨g,p*9+4,be⟩ (U O m.addr)).setCell ⟨g,p*9+5,be⟩ (U O m.port)).setCell ⟨g,p*9+6,be⟩ (Ia m.aj)).setCell ⟨g,p*9+7,be⟩ (U O m.version)).setCell ⟨g,p*9+8,be⟩ (Ia m.gone)) (J (AI ⟨g,0,be⟩) ms.length c) (ms.set p m):=by
 have h1:=IK h (p*9) (Y m.node);have h2:=IK h1.1 (p*9+1) (Y m.bq);have h3:=IK h2.1 (p*9+2) (Y m.name);have h4:=IK h3.1 (p*9+3) (Y m.tag);have h5:=IK h4.1 (p*9+4) (U O m.addr);have h6:=IK h5.1 (p*9+5) (U O m.port);have h7:=IK h6.1 (p*9+6) (Ia m.aj);have h8:=IK h7.1 (p*9+7) (U O m.version);have h9:=IK h8.1 (p*9+8) (Ia m.gone);have e:=h9.1;rw[nQ ms p hp m] at e;show World.ownsRow _ _ _ _ _ (ms.set p m).length _;rw[List.length_set];exact e
theorem Sl.below{w w':World}{v:Value}{ms:List aW}(h:Sl w v ms)(hb:Below w.heap.size w w'):Sl w' v ms:=by
 obtain⟨a,cap,rfl,hs,h⟩:=h;refine⟨a,cap,rfl,hs,?_⟩;rcases h with h|⟨b,off,rfl,aR,hr⟩
 .exact .inl h
 .refine .inr ⟨b,off,rfl,Nat.lt_of_lt_of_le aR hb.size,λj hj=>?_⟩
  exact(hr j hj).eq (λo=>(cj hb).1 b o aR)
theorem Row.later{w w':World}{b off:Nat}{ms:List aW}(hr:Row w b off ms)(hb:Below w.heap.size w w')(aR:b<w.heap.size):Row w' b off ms:=λj hj=>(hr j hj).eq (λo=>(cj hb).1 b o aR)
theorem Own.mono{base iK:Nat}{w:World}{v:Value}{ms:List aW}(h:Own base w v ms)(hb:iK<=base):Own iK w v ms:=by
 rcases h.2 with⟨rfl,h0⟩|⟨g,c,cur,rfl,ey,hg,fK,dN,bZ,bf⟩
 .exact⟨h.1,.inl ⟨rfl,h0⟩⟩
 .exact⟨h.1,.inr ⟨g,c,cur,rfl,Nat.le_trans hb ey,hg,fK,dN,bZ,bf⟩⟩
theorem bX(base:Nat)(w:World):Own base w (J be 0 0) []:=World.ownsRow_nil w base 46 9
theorem dt{ms:List aW}(h:∀j,(ms.getD j dm).ok):∀m∈ms,(m).ok:=by
 intro m hm;obtain⟨j,hj,rfl⟩:=I3 hm;have:=h j;simpa[Iq,Ie hj] using this
theorem cy{ms:List aW}(h:∀m∈ms,(m).ok):∀j,(ms.getD j dm).ok:=by
 intro j;by_cases hj:j<ms.length
 .have:=h ms[j] (List.getElem_mem hj)
  simpa[Iq,Ie hj] using this
 .rw[Iq,List.getElem?_eq_none (Nat.le_of_not_lt hj)];exact sx
theorem bF{base:Nat}{w:World}{v:Value}{ms:List aW}(h:Own base w v ms)(hs:∀m∈ms,(m).ok):Sl w v ms:=h.sl (cy hs)
theorem nT(w:World)(b cap:Nat)(m:aW)(hm:(m).ok)(hg:w.heap[b]?=AI (By #[Y m.node,Y m.bq,Y m.name,Y m.tag,U O m.addr,U O m.port,Ia m.aj,U O m.version,Ia m.gone] 46 (0,0))):Sl w (J (AI ⟨b,0,be⟩) 1 cap) [m]:=by
 refine⟨_,cap,rfl,cy (λx hx=>by simp at hx;subst hx;exact hm),.inr ⟨b,0,rfl,(BY.1 hg).1,λj hj=>?_⟩⟩
 have:j=0:=by simpa using hj
 subst this;exact⟨ae hg (0+0*9),ae hg (0+0*9+1),ae hg (0+0*9+2),ae hg (0+0*9+3),ae hg (0+0*9+4),ae hg (0+0*9+5),ae hg (0+0*9+6),ae hg (0+0*9+7),ae hg (0+0*9+8)⟩
theorem jI{base:Nat}{w:World}{v:Value}{L:List aW}{m:aW}(h:w.ownsRow base 46 9 v (L.length+1) (fl L++m.cs)):Own base w v (L++[m]):=by
 have e:fl (L++[m])=fl L++m.cs:=by rw[cD,aZ];simp[fl]
 show w.ownsRow base 46 9 v (L++[m]).length (fl (L++[m]));rw[e,Ih];exact h
end Sv
namespace Sv
open Go.RowKit
theorem Tryz.qm:(Tryz.prog.info? 46).map (λi=>(i.zero,i.size,i.bytes))=AI (AI (Ik #[Y ⟨#[]⟩,Y ⟨#[]⟩,Y ⟨#[]⟩,Y ⟨#[]⟩,U O 0,U O 0,Ia false,U O 0,Ia false]),9,104):=by kernel_rfl
theorem Kx:(Tryz.prog.info? 46).map (·.size)=AI 9:=by
 obtain⟨i,hi,h1,h2,h3⟩:=I6 Tryz.qm;rw[hi];simp[h2]
theorem sizeOf46(w:World):(Go.sizeOf 46).run AS w=.ok 9 w:=by
 obtain⟨i,hi,h1,h2,h3⟩:=I6 Tryz.qm;simp[Go.sizeOf,typeInfo,hi,h2]
theorem eK(w:World)(g vb o lb cb:Nat)(cur vs:Array Value)(hg:w.heap[g]?=AI (By cur 46 (0,0)))(hv:w.heap[vb]?=AI (By vs 46 (0,0)))(aT:vb≠g)(hk:cur.size≠0) : (callFunc 245 #[J (AI ⟨vb,0,be⟩) 1 1,J (AI ⟨g,o,be⟩) lb cb]).run AS w=.ok (.value (Ia false)) w:=by
 rw[run_callFunc_extern Tryz.func245 (by kernel_rfl) (by kernel_rfl) (by kernel_rfl) (e:=Extern.SlicesOverlaps.overlaps #[36,36] #[4]) (by kernel_rfl),
  Lib.run_overlaps_apart w 36 4 46 J5 9 sizeOf46 ⟨vb,0,be⟩ ⟨g,o,be⟩ 1 1 lb cb aT 46 46 vs.size cur.size (by simp[World.shape?,hv]) (by simp[World.shape?,hg]) hk (by simp[World.frozen?,hv]) (by simp[World.frozen?,hv])]
 rfl
theorem fi(g n c i vb:Nat)(cur:Array Value)(vs:List Value)(w:World)(hg:w.heap[g]?=AI (By cur 46 (0,0)))(bZ:cur.size=c*9)(hi:i<n)(du:n+1<=c)(Ba:c<=9223372036854775807)(o5:vb≠g)(hv:w.heap[vb]?=AI (By vs.toArray 46 (0,0)))(kY:vs.length=9)(lH:∀v∈cur.toList.take (n*9),v.oneCell'=true)(mC:∀v∈vs,v.oneCell'=true) :
 aF 214 #[J (AI ⟨g,0,be⟩) n c,U O i,J (AI ⟨vb,0,be⟩) 1 1] w λe w'=>e=AT (J (AI ⟨g,0,be⟩) (n+1) c) /\
  ∃dP:Array Value,w'.heap[g]?=AI (By dP 46 (0,0))/\dP.size=c*9/\dP.toList.take ((n+1)*9)=cur.toList.take (i*9)++vs++(cur.toList.take (n*9)).drop (i*9)/\w.grownBy w' (AI g):=by
 have RX:=λo lb cb=>eK w g vb o lb cb cur vs.toArray hg hv o5 (by omega);have ny:¬ ((i:Int)=(n:Int)):=by omega
 have aI:¬ (c=i+1):=by omega
 have eP:¬ (c=i):=by omega
 have bU:(i:Int)<=(n:Int)+1:=by omega
 obtain⟨W1,W2,og,sU,HF⟩:=o0 J5 Kx hg bZ hi du o5 hv kY lH mC;have HF:Hid _:=HF;clear lH mC hg hv;have My:IntKind.i64.wrap ((i:Int)+1)=(i:Int)+1:=by rw[IY];omega
 have aB:(0:Int)<=(i:Int)+1:=by omega
 have nK:i<=n:=by omega
 have DW:((i:Int)+1).toNat=i+1:=by omega
 go_enter Tryz.func214,Tryz.ntmps214;go_wp2_with (simp only[RX]);go_region_law (refine dj rfl _ _ 36 36 rfl _ _ (by simp[No,Om]) (by simp[No,Om]) (og _ _ _) ?_)
 go_wp2_with fail;go_ret;exact⟨rfl,HF.out⟩
theorem fj(g n c i vb:Nat)(cur:Array Value)(vs:List Value)(w:World)(hg:w.heap[g]?=AI (By cur 46 (0,0)))(bZ:cur.size=c*9)(hi:i<n)(fK:n<=c)(du:c<n+1)(Ba:n<=1000)(hv:w.heap[vb]?=AI (By vs.toArray 46 (0,0)))(kY:vs.length=9)(lH:∀v∈cur.toList.take (n*9),v.oneCell'=true)(mC:∀v∈vs,v.oneCell'=true) :
 aF 214 #[J (AI ⟨g,0,be⟩) n c,U O i,J (AI ⟨vb,0,be⟩) 1 1] w λe w'=>∃G,e=AT (J (AI ⟨w.heap.size,0,be⟩) (n+1) G)/\n+1<=G/\G<=Io /\
  ∃dP:Array Value,w'.heap[w.heap.size]?=AI (By dP 46 (0,0))/\dP.size=G*9/\dP.toList.take ((n+1)*9)=cur.toList.take (i*9)++vs++(cur.toList.take (n*9)).drop (i*9)/\w.grownBy w' be:=by
 obtain⟨i0,fW,dd,gY,gG⟩:=I6 Tryz.qm;have Bb:c=n:=by omega
 subst Bb;have ny:¬ ((i:Int)=(c:Int)):=by omega
 have qb:(c:Int)<(c:Int)+1:=by omega
 have rZ:(c:Int)+1-(i:Int)=((c+1-i:Nat):Int):=by omega
 have Bc:i+(c+1-i)=c+1:=by omega
 have hold:(Builtin.firstCells i0.size i (J (AI ⟨g,0,be⟩) i c)).run AS w.drew=.ok (cur.toList.take (i*9)).toArray w.drew:=by
  rw[gY];exact run_firstCells_some w.drew 9 i ⟨g,0,be⟩ i c (cur.toList.take (i*9)) (by rw[IB,IS];omega) (λj v hj=>by
   have e:w.drew.cell? ((⟨g,0,be⟩:Addr).add j)=cur[j]?:=by rw[Addr.add_lit,Nat.zero_add];exact ae hg _
   rw[e];rw[List.getElem?_take] at hj;split at hj
   .simpa using hj
   .cases hj)
 have wQ:∀ty,∃G mg,c+1<=G/\G<=Io/\mg.size=G*9/\mg.toList.take (i*9)=cur.toList.take (i*9)/\(Builtin.append_ #[36,3] ty #[J (AI ⟨g,0,be⟩) i c,U O ((c:Int)+1-(i:Int))]).run AS w =
  .ok (J (AI ⟨w.heap.size,0,be⟩) (c+1) G) (w.drew.alloc (By mg 46)):=λty=>by
  have h:=Lib.run_append_grow_zeros w 36 3 ty 46 i0 _ O O J5 Tryz.underlying3 fW dd (AI ⟨g,0,be⟩) i c (cur.toList.take (i*9)) hold (c+1-i) (by omega) (by omega) (by omega) (by omega) (by rw[gG];omega) (by rw[gG,Bc];exact growslice_fits du (by omega));rw[Bc] at h;rw[rZ];have h1:=grownCap_ge w (c+1) c 46;refine⟨_,_,h1,grownCap_le_maxLen w (c+1) c 46 (by unfold Io;omega),?_,?_,h⟩
  .simp only[Array.size_append,List.size_toArray,size_zeroCells,IB,IS,bZ,Value.cells]
   simp;omega
  .simp only[Array.toList_append,Ip]
   exact List.take_left' (by simp only[IB,IS,bZ];omega)
 obtain⟨G,mg,yO,wR,Ao,DV,wQ⟩:=wQ 36;have RY:G<=9223372036854775807:=by unfold Io at wR;omega
 obtain⟨W2,W3,og,sU,HF⟩:=o6 J5 Kx hg bZ hi hv kY lH mC yO Ao DV;obtain⟨W1,cQ⟩:∃W1,W1=(w.alloc (By mg 46)).drew:=⟨_,rfl⟩;have He:w.drew.alloc (By mg 46)=W1:=by rw[cQ];rfl
 rw[He] at wQ;rw[<- cQ] at og;have HF:Hid _:=HF;have My:IntKind.i64.wrap ((i:Int)+1)=(i:Int)+1:=by rw[IY];omega
 have aB:(0:Int)<=(i:Int)+1:=by omega
 have nK:i<=c:=by omega
 have DW:((i:Int)+1).toNat=i+1:=by omega
 have hGi:¬ (G=i):=by omega
 have RZ:¬ (G=i+1):=by omega
 have hci:¬ (c=i):=by omega
 clear cQ lH mC He Ao DV rZ Bc hold hg hv fW dd gY gG;go_enter Tryz.func214,Tryz.ntmps214;go_wp2_with (at_builtin;refine Lib.wpList_append_run _ rfl _ _ _ _ rfl _ _ rfl rfl _ _ wQ ?_);go_region_law (refine dj rfl _ _ 36 36 rfl _ _ (by simp[No,Om]) (by simp[No,Om]) (sU _ _ _) ?_)
 go_wp2_with fail;go_ret;exact⟨G,rfl,yO,wR,HF.out⟩
theorem fZ(base n vb:Nat)(v:Value)(xs vs:List Value)(w:World)(hown:w.ownsRow base 46 9 v n xs)(hn:n<=1000)(hbase:base<=w.heap.size)(hv:w.heap[vb]?=AI (By vs.toArray 46 (0,0)))(kY:vs.length=9)(mC:∀v∈vs,v.oneCell'=true) :
 aF 214 #[v,U O n,J (AI ⟨vb,0,be⟩) 1 1] w λe w'=>∃v',e=AT v'/\w'.ownsRow base 46 9 v' (n+1) (xs++vs)/\w.grownBy w' v.ownBlock:=by
 obtain⟨i0,fW,dd,gY,gG⟩:=I6 Tryz.qm;have hnews:∀j u,vs[j]?=AI u->w.cell? ((⟨vb,0,be⟩:Addr).add j)=AI u:=λj v hj=>by rw[Addr.add_lit,ae hv];simpa using hj
 have HO:Hid (w.ownsRow base 46 9 v n xs):=hown;rcases hown.2 with⟨rfl,rfl⟩|⟨g,c,cur,rfl,_,_,fK,dN,_,_⟩;rotate_left;unfold Io at dN;by_cases Bb:c=n;subst Bb;all_goals
  clear hown hv;go_enter Tryz.func214,Tryz.ntmps214;go_wp2_with (at_builtin;refine Ja _ rfl _ _ 36 rfl base 46 i0 _ 9 104 J5 fW dd gY gG rfl (by omega) _ _ xs rfl HO.out ⟨vb,0,be⟩ 1 1 vs rfl (by omega) hnews mC (by unfold Io;omega) (by omega) hbase ?_);intro v' w' r1 r2 r3;go_wp2_with fail;go_ret;exact⟨v',rfl,r1,r2⟩
theorem fk(base i vb:Nat)(v:Value)(ms:List aW)(m:aW)(w:World)(hown:Own base w v ms)(hi:i<=ms.length)(hn:ms.length<=1000)(hbase:base<=w.heap.size)(hv:w.heap[vb]?=AI (By m.cs.toArray 46 (0,0)))(aT:v.ownBlock≠AI vb) :
 aF 214 #[v,U O i,J (AI ⟨vb,0,be⟩) 1 1] w λe w'=>∃v',e=AT v'/\Own base w' v' (ms.take i++m::ms.drop i)/\w.grownBy w' v.ownBlock:=by
 have hlen:(ms.take i++m::ms.drop i).length=ms.length+1:=by simp;omega
 have Hf:fl (ms.take i++m::ms.drop i)=(fl ms).take (i*9)++m.cs++(fl ms).drop (i*9):=by rw[cD,aZ,eY,eZ,Ip]
 by_cases nK:i=ms.length
 .subst nK
  refine(fZ base ms.length vb v (fl ms) m.cs w hown hn hbase hv rfl (db m)).mono ?_;rintro e w' ⟨v',rfl,h1,h2⟩;refine⟨v',rfl,?_,h2⟩;have e1:ms.take ms.length++m::ms.drop ms.length=ms++[m]:=by simp
  have e2:fl (ms++[m])=fl ms++m.cs:=by rw[cD,aZ];simp[fl]
  rw[e1];show w'.ownsRow base 46 9 v' (ms++[m]).length (fl (ms++[m]));rw[e2,show(ms++[m]).length=ms.length+1 by simp];exact h1
 .rcases hown.2 with⟨_,h0⟩|⟨g,c,cur,rfl,ey,hg,fK,dN,bZ,bf⟩
  .omega
  .have o5:vb≠g:=λe=>aT (by simp[Jx,e])
   have lH:∀v∈cur.toList.take (ms.length*9),v.oneCell'=true:=by rw[bf];exact gJ ms
   have Mz:cur.toList.take (i*9)=(fl ms).take (i*9):=by rw[<- bf,List.take_take];congr 1;omega
   have key:∀l:List Value,l=cur.toList.take (i*9)++m.cs++(cur.toList.take (ms.length*9)).drop (i*9)->l=fl (ms.take i++m::ms.drop i):=λl hl=>by rw[hl,Hf,bf,Mz]
   by_cases du:ms.length+1<=c
   .refine(fi g ms.length c i vb cur m.cs w hg bZ (by omega) du (by unfold Io at dN;omega) o5 hv rfl lH (db m)).mono ?_
    rintro e w' ⟨rfl,dP,h1,h2,h3,h4⟩;refine⟨_,rfl,?_,h4⟩;rw[<- hlen];exact ic ey h1 h2 (by omega) dN (key _ (by rw[hlen];exact h3))
   .refine(fj g ms.length c i vb cur m.cs w hg bZ (by omega) fK (by omega) hn hv rfl lH (db m)).mono ?_
    rintro e w' ⟨G,rfl,yO,wR,dP,h1,h2,h3,h4⟩;refine⟨_,rfl,?_,mX h4 _⟩;rw[<- hlen];exact ic hbase h1 h2 (by omega) wR (key _ (by rw[hlen];exact h3))
end Sv
namespace Sv
open Go.RowKit
def ord:aW->aW->Int:=RL.lex (λa b=>bO a.node b.node) (λa b=>bO a.bq b.bq)
theorem keyed:RL.Keyed ord:=RL.gD (RL.jC aW.node) (RL.jC aW.bq)
def xp:aW->aW->Int:=RL.lex (λa b=>a.version-b.version) (RL.lex (λa b=>RL.bI a.gone-RL.bI b.gone) (RL.lex (λa b=>bO a.name b.name) (RL.lex (λa b=>bO a.tag b.tag) (RL.lex (λa b=>a.addr-b.addr) (RL.lex (λa b=>a.port-b.port) (λa b=>RL.bI a.aj-RL.bI b.aj))))))
theorem BH:RL.Keyed xp:=RL.gD (RL.iA aW.version) (RL.gD (RL.iA λa:aW=>RL.bI a.gone) (RL.gD (RL.jC aW.name) (RL.gD (RL.jC aW.tag) (RL.gD (RL.iA aW.addr) (RL.gD (RL.iA aW.port) (RL.iA λa:aW=>RL.bI a.aj))))))
def bN(a b:aW):Bool:=decide (0<xp a b)
theorem iB:RL.qe ord bN:=RL.vP BH λa b h1 h2=>by
 obtain⟨n1,n2⟩:=RL.fT h1;obtain⟨h3,h2⟩:=RL.fT h2;obtain⟨h4,h2⟩:=RL.fT h2;obtain⟨h5,h2⟩:=RL.fT h2;obtain⟨h6,h2⟩:=RL.fT h2;obtain⟨h7,h2⟩:=RL.fT h2;obtain⟨h8,h9⟩:=RL.fT h2;have e1:a.node=b.node:=(bR _ _).1 n1;have e2:a.bq=b.bq:=(bR _ _).1 n2;have e3:a.version=b.version:=by omega
 have e4:a.gone=b.gone:=RL.BG h4;have e5:a.name=b.name:=(bR _ _).1 h5;have e6:a.tag=b.tag:=(bR _ _).1 h6;have e7:a.addr=b.addr:=by omega
 have e8:a.port=b.port:=by omega
 have e9:a.aj=b.aj:=RL.BG h9;obtain⟨a_node,a_idn,a_name,a_tag,a_addr,a_port,a_passing,a_version,a_gone⟩:=a;obtain⟨b_node,b_idn,b_name,b_tag,b_addr,b_port,b_passing,b_version,b_gone⟩:=b;simp only at e1 e2 e3 e4 e5 e6 e7 e8 e9;subst e1 e2 e3 e4 e5 e6 e7 e8 e9;rfl
abbrev bl(ms:List aW):Prop:=RL.bl ord ms
abbrev aQ(ms:List aW)(m:aW):List aW:=RL.fQ ord bN ms m
abbrev av(a b:List aW):List aW:=RL.join ord bN a b
abbrev At(ms:List aW)(t:aW)(p:Nat)(f:Bool):Prop:=RL.At ord dm ms t p f
abbrev aK(ms:List aW):Bool:=RL.aK ord ms
theorem dO{ms:List aW}(h:bl ms)(t:aW):∀i j,i<=j->j<ms.length->ord (ms.getD j dm) t<0->ord (ms.getD i dm) t<0:=RL.dO ord dm keyed h t
theorem fp(ms:List aW)(h:∀j,j+1<ms.length->ord (ms.getD j dm) (ms.getD (j+1) dm)<0):aK ms=true:=RL.gv ord dm ms h
theorem fq(ms:List aW)(h:aK ms=true):∀j,j+1<ms.length->ord (ms.getD j dm) (ms.getD (j+1) dm)<0:=RL.ib ord dm ms h
theorem ku(ms:List aW)(hr:bl ms)(t:aW):∃p f,At ms t p f:=RL.ku ord dm keyed ms hr t
theorem ed{ms:List aW}{t:aW}{p q:Nat}{f e:Bool}(h:At ms t p f)(k:At ms t q e):p=q/\f=e:=RL.ed ord dm h k
theorem da(ms:List aW)(m:aW)(p:Nat)(f:Bool)(h:At ms m p f) :
 aQ ms m=if f=true then(if bN m (ms.getD p dm)=true then ms.set p m else ms) else ms.take p++m::ms.drop p:=RL.oM ord bN dm ms m p f h
theorem dD(b a:List aW)(h:bl a):bl (av a b):=RL.kH ord bN keyed b a h
theorem df(b a:List aW):(av a b).length<=a.length+b.length:=RL.oO ord bN b a
theorem eB(b a:List aW)(x:aW)(h:x∈av a b):x∈a\/x∈b:=RL.oP ord bN b a x h
theorem gj(a b:List aW)(j:Nat)(hj:j<b.length):av a (b.take (j+1))=aQ (av a (b.take j)) (b.getD j dm):=RL.qf ord bN dm a b j hj
theorem iu(b:List aW)(h:bl b):av [] b=b:=RL.join_nil ord bN b h
theorem iJ(b a:List aW)(ha:∀m∈a,m.ok)(hb:∀m∈b,m.ok):∀x∈av a b,x.ok:=by
 intro x hx;rcases eB b a x hx with h|h
 .exact ha x h
 .exact hb x h
def lE(t:ByteArray):Bool:=decide (t=Iw)||ba t
def aW.e(m:aW):Int:=
 if(ba m.node&&(ba m.bq&&(ba m.name&&lE m.tag)))=true then(if(within m.addr 0 4294967295&&(within m.port 0 65535&&within m.version 1 1000000))=true then 0 else 3) else 1
def aU:List aW->Int
 |[]=>0
 |m::r=>if m.e=0 then aU r else m.e
theorem cB:∀(ms:List aW),(∀j,j<ms.length->(ms.getD j dm).e=0)->aU ms=0
 |[],_=>rfl
 |m::r,h=>by
  have h0:=h 0 (by simp);simp only[I2] at h0;rw[aU,if_pos h0];exact cB r λj hj=>by have:=h (j+1) (by simpa using hj);simpa using this
theorem dQ:∀(ms:List aW) (k:Nat),k<ms.length->(∀j,j<k->(ms.getD j dm).e=0)->(ms.getD k dm).e≠0->aU ms=(ms.getD k dm).e
 |[],k,h,_,_=>by simp at h
 |m::r,0,_,_,aT=>by
  simp only[I2] at aT ⊢;rw[aU,if_neg aT]
 |m::r,k+1,h,hz,aT=>by
  have h0:=hz 0 (by omega);simp only[I2] at h0;rw[aU,if_pos h0,Jz];rw[Jz] at aT;exact dQ r k (by simpa using h) (λj hj=>by have:=hz (j+1) (by omega);simpa using this) aT
theorem bb:∀(ms:List aW),aU ms=0->∀m∈ms,m.e=0
 |[],_,m,hm=>by simp at hm
 |x::r,h,m,hm=>by
  rw[aU] at h;split at h
  .rename_i hx
   rcases IQ.1 hm with rfl|hm
   .exact hx
   .exact bb r h m hm
  .rename_i hx;exact absurd h hx
theorem ft:∀(ms:List aW),(∀m∈ms,m.e=0)->aU ms=0
 |[],_=>rfl
 |x::r,h=>by rw[aU,if_pos (h x (by simp))];exact ft r λm hm=>h m (by simp[hm])
def bj(ms:List aW):Int:=if 40<ms.length then 2 else if aU ms=0 then(if aK ms=true then 0 else 4) else aU ms
theorem tC(ms:List aW)(k:Nat)(hn:ms.length<=40)(hk:k<ms.length)(hz:∀j,j<k->(ms.getD j dm).e=0)(aT:(ms.getD k dm).e≠0):bj ms=(ms.getD k dm).e:=by
 have h:=dQ ms k hk hz aT;rw[bj,if_neg (by omega),h,if_neg aT]
theorem qZ(ms:List aW)(hn:ms.length<=40)(hz:∀j,j<ms.length->(ms.getD j dm).e=0):bj ms=if aK ms=true then 0 else 4:=by
 rw[bj,if_neg (by omega),cB ms hz,if_pos rfl]
theorem af{ms:List aW}(h:bj ms=0):ms.length<=40/\bl ms/\aU ms=0:=by
 unfold bj at h;split at h
 .omega
 .split at h
  .rename_i h1 h2
   split at h
   .rename_i h3
    exact⟨by omega,RL.lp ord keyed ms h3,h2⟩
   .omega
  .rename_i h1 h2;exact absurd h h2
theorem jR{ms:List aW}(h1:ms.length<=40)(h2:bl ms)(h3:∀m∈ms,m.e=0):bj ms=0:=by
 rw[bj,if_neg (by omega),ft ms h3,if_pos rfl,if_pos (RL.jF ord ms h2)]
theorem xq(m:aW):bj [m]=m.e:=by
 have h1:aU [m]=m.e:=by
  rw[aU];split
  .rename_i h;rw[h];rfl
  .rfl
 rw[bj,if_neg (by simp),h1];split
 .rename_i h;rw[h];exact if_pos rfl
 .rfl
def aO(a b:List aW):Int:=if bj a=0 then bj b else bj a
def dE(a b:List aW)(k:Nat):List aW:=if k=0 then[] else if k=1 then a else av a b
def aE(a b:List aW):Int:=if aO a b=0 then(if 40<(av a b).length then 2 else 0) else aO a b
end Sv
end Go.Proofs.YtfidhgjmifendaaGreatDoor
namespace Go.Proofs.YtfidhgjmifendaaGreatDoor
open Go.RowKit
def uI(nm:ByteArray)(st lf ad:Int):Int:=
 if ba nm=true then(if within st 1 4=true then(if within lf 1 1000000=true then(if within ad 0 4294967295=true then 0 else 3) else 3) else 7) else 1
def oU(sa la aa:Int)(va:Bool)(sb lb ab:Int)(vb:Bool):Bool:=
 if la=lb then(if sa=sb then(if aa=ab then(va&&!vb) else decide (ab<aa)) else decide (sb<sa)) else decide (lb<la)
theorem xt(nm:ByteArray)(st lf ad:Int)(sv:Bool)(w:World)(hs:nm.size<=Io) :
 aF 120 #[Ik #[Y nm,U O st,U O lf,U O ad,Ia sv]] w λe w'=>e=AT (U O (uI nm st lf ad))/\w'=w.alloc (By #[Y nm,U O st,U O lf,U O ad,Ia sv] 50):=by
 rcases h1:ba nm with _|_
 .go_enter Tryz.func120,Tryz.ntmps120
  go_wp2_with (go_at_call 53;refine(bQ _ _ hs).mono ?_;rintro e w' ⟨rfl,rfl⟩;rw[h1]);go_ret;exact⟨ai (by simp[uI,h1]),rfl⟩
 .rcases h2:within st 1 4 with _|_
  .go_enter Tryz.func120,Tryz.ntmps120
   go_wp2_with (first|(go_at_call 53;refine(bQ _ _ hs).mono ?_;rintro e w' ⟨rfl,rfl⟩;rw[h1])|(go_at_call 54;refine(cf _ _ _ _).mono ?_;rintro e w' ⟨rfl,rfl⟩;rw[h2]));go_ret;exact⟨ai (by simp[uI,h1,h2]),rfl⟩
  .rcases h3:within lf 1 1000000 with _|_
   .go_enter Tryz.func120,Tryz.ntmps120
    go_wp2_with (first|(go_at_call 53;refine(bQ _ _ hs).mono ?_;rintro e w' ⟨rfl,rfl⟩;rw[h1])|(go_at_call 54;refine(cf _ _ _ _).mono ?_;rintro e w' ⟨rfl,rfl⟩;first|rw[h2]|rw[h3]));go_ret;exact⟨ai (by simp[uI,h1,h2,h3]),rfl⟩
   .rcases h4:within ad 0 4294967295 with _|_
    all_goals
     go_enter Tryz.func120,Tryz.ntmps120;go_wp2_with (first|(go_at_call 53;refine(bQ _ _ hs).mono ?_;rintro e w' ⟨rfl,rfl⟩;rw[h1])|(go_at_call 54;refine(cf _ _ _ _).mono ?_;rintro e w' ⟨rfl,rfl⟩;first|rw[h2]|rw[h3])|(go_at_call 35;refine(eF _ _).mono ?_;rintro e w' ⟨rfl,rfl⟩;rw[h4]));go_ret;exact⟨ai (by simp[uI,h1,h2,h3,h4]),rfl⟩
theorem vp(na nb:ByteArray)(sa la aa:Int)(va:Bool)(sb lb ab:Int)(vb:Bool)(w:World) :
 aF 208 #[Ik #[Y na,U O sa,U O la,U O aa,Ia va],Ik #[Y nb,U O sb,U O lb,U O ab,Ia vb]] w λe w'=>e=AT (Ia (oU sa la aa va sb lb ab vb))/\w'=(w.alloc (By #[Y na,U O sa,U O la,U O aa,Ia va] 50)).alloc (By #[Y nb,U O sb,U O lb,U O ab,Ia vb] 50):=by
 by_cases h1:la=lb
 .subst h1
  by_cases h2:sa=sb
  .subst h2
   by_cases h3:aa=ab
   .subst h3
    cases va
    all_goals
     go_enter Tryz.func208,Tryz.ntmps208;go_wp2;go_ret;exact⟨aL (by simp[oU]),rfl⟩
   .have h3':(aa !=ab)=true:=by simpa using h3
    go_enter Tryz.func208,Tryz.ntmps208;go_wp2;go_ret;exact⟨aL (by simp[oU,h3]),rfl⟩
  .have Hx:(sa !=sb)=true:=by simpa using h2
   go_enter Tryz.func208,Tryz.ntmps208;go_wp2;go_ret;exact⟨aL (by simp[oU,h2]),rfl⟩
 .have L2:(la !=lb)=true:=by simpa using h1
  go_enter Tryz.func208,Tryz.ntmps208;go_wp2;go_ret;exact⟨aL (by simp[oU,h1]),rfl⟩
theorem rM(na nb:ByteArray)(sa la aa:Int)(va:Bool)(sb lb ab:Int)(vb:Bool)(w:World) :
 aF 20 #[Ik #[Y na,U O sa,U O la,U O aa,Ia va],Ik #[Y nb,U O sb,U O lb,U O ab,Ia vb]] w λe w'=>e=AT (Ia (oU sa la aa va sb lb ab vb))/\w'=(w.alloc (By #[Y na,U O sa,U O la,U O aa,Ia va] 50)).alloc (By #[Y nb,U O sb,U O lb,U O ab,Ia vb] 50):=by
 by_cases h1:la=lb
 .subst h1
  by_cases h2:sa=sb
  .subst h2
   by_cases h3:aa=ab
   .subst h3
    cases va
    all_goals
     go_enter Tryz.func20,Tryz.ntmps20;go_wp2;go_ret;exact⟨aL (by simp[oU]),rfl⟩
   .have h3':(aa !=ab)=true:=by simpa using h3
    go_enter Tryz.func20,Tryz.ntmps20;go_wp2;go_ret;exact⟨aL (by simp[oU,h3]),rfl⟩
  .have Hx:(sa !=sb)=true:=by simpa using h2
   go_enter Tryz.func20,Tryz.ntmps20;go_wp2;go_ret;exact⟨aL (by simp[oU,h2]),rfl⟩
 .have L2:(la !=lb)=true:=by simpa using h1
  go_enter Tryz.func20,Tryz.ntmps20;go_wp2;go_ret;exact⟨aL (by simp[oU,h1]),rfl⟩
def Mem.e(m:Mem):Int:=uI m.name m.state m.aM m.addr
def aU:List Mem->Int
 |[]=>0
 |m::r=>if m.e=0 then aU r else m.e
theorem cB:∀(ms:List Mem),(∀j,j<ms.length->(ms.getD j dm).e=0)->aU ms=0
 |[],_=>rfl
 |m::r,h=>by
  have h0:=h 0 (by simp);simp only[I2] at h0;rw[aU,if_pos h0];exact cB r λj hj=>by have:=h (j+1) (by simpa using hj);simpa using this
theorem dQ:∀(ms:List Mem) (k:Nat),k<ms.length->(∀j,j<k->(ms.getD j dm).e=0)->(ms.getD k dm).e≠0->aU ms=(ms.getD k dm).e
 |[],k,h,_,_=>by simp at h
 |m::r,0,_,_,aT=>by
  simp only[I2] at aT ⊢;rw[aU,if_neg aT]
 |m::r,k+1,h,hz,aT=>by
  have h0:=hz 0 (by omega);simp only[I2] at h0;rw[aU,if_pos h0,Jz];rw[Jz] at aT;exact dQ r k (by simpa using h) (λj hj=>by have:=hz (j+1) (by omega);simpa using this) aT
def aK:List Mem->Bool
 |a::b::r=>less a.name b.name&&aK (b::r)
 |_=>true
theorem gv:∀(ms:List Mem),(∀j,j+1<ms.length->less (ms.getD j dm).name (ms.getD (j+1) dm).name=true)->aK ms=true
 |[],_=>rfl
 |[_],_=>rfl
 |a::b::r,h=>by
  have h0:=h 0 (by simp);simp only[I2,Jz] at h0;rw[aK,h0,QV];exact gv (b::r) λj hj=>by have:=h (j+1) (by simpa using hj);simpa using this
theorem ib:∀(ms:List Mem),aK ms=true->∀j,j+1<ms.length->less (ms.getD j dm).name (ms.getD (j+1) dm).name=true
 |[],_,j,h=>by simp at h
 |[_],_,j,h=>by simp at h
 |a::b::r,hr,0,_=>by
  rw[aK,IW] at hr;simpa using hr.1
 |a::b::r,hr,j+1,h=>by
  rw[aK,IW] at hr;have:=ib (b::r) hr.2 j (by simpa using h);simpa using this
def bj(ms:List Mem):Int:=if 20<ms.length then 2 else if aU ms=0 then(if aK ms=true then 0 else 4) else aU ms
theorem tC(ms:List Mem)(k:Nat)(hn:ms.length<=20)(hk:k<ms.length)(hz:∀j,j<k->(ms.getD j dm).e=0)(aT:(ms.getD k dm).e≠0):bj ms=(ms.getD k dm).e:=by
 have h:=dQ ms k hk hz aT;rw[bj,if_neg (by omega),h,if_neg aT]
theorem ag8(ms:List Mem)(hn:ms.length<=20)(hz:∀j,j<ms.length->(ms.getD j dm).e=0)(hl:∀j,j+1<ms.length->less (ms.getD j dm).name (ms.getD (j+1) dm).name=true):bj ms=0:=by
 rw[bj,if_neg (by omega),cB ms hz,if_pos rfl,if_pos (gv ms hl)]
structure At(ms:List Mem)(t:ByteArray)(p:Nat)(f:Bool):Prop where
 le:p<=ms.length
 lo:∀j,j<p->bO (ms.getD j dm).name t<0
 hi:∀j,p<=j->j<ms.length->0<=bO (ms.getD j dm).name t
 is:f=true↔p<ms.length/\bO (ms.getD p dm).name t=0
def eH(a b:Mem):Bool:=oU a.state a.aM a.addr a.server b.state b.aM b.addr b.server
def aQ:List Mem->Mem->List Mem
 |[],m=>[m]
 |x::r,m=>if bO x.name m.name<0 then x::aQ r m else if bO x.name m.name=0 then(if eH m x=true then m::r else x::r) else m::x::r
abbrev bl(ms:List Mem):Prop:=ms.Pairwise λa b=>less a.name b.name=true
theorem lp:∀ms:List Mem,aK ms=true->bl ms
 |[],_=>.nil
 |[x],_=>by simp[bl]
 |a::b::r,h=>by
  rw[aK,IW] at h;have ih:=lp (b::r) h.2;refine JD.2 ⟨λc hc=>?_,ih⟩;rcases IQ.1 hc with rfl|hc
  .exact h.1
  .exact fY h.1 (JG ih hc)
theorem jF:∀ms:List Mem,bl ms->aK ms=true
 |[],_=>rfl
 |[x],_=>rfl
 |a::b::r,h=>by
  rw[aK,JG h (by simp),QV];exact jF (b::r) (List.Pairwise.of_cons h)
theorem dO{ms:List Mem}(h:bl ms)(t:ByteArray):∀i j,i<=j->j<ms.length->bO (ms.getD j dm).name t<0->bO (ms.getD i dm).name t<0:=by
 intro i j jG hj aR;rcases Nat.lt_or_eq_of_le jG with RF|rfl
 .have hp:=List.pairwise_iff_getElem.1 h i j (by omega) hj RF
  rw[fC] at aR ⊢;have e1:ms.getD i dm=ms[i]:=by simp[Iq,Ie (show i<ms.length by omega)]
  have e2:ms.getD j dm=ms[j]:=by simp[Iq,Ie hj]
  rw[e1];rw[e2] at aR;exact fY hp aR
 .exact aR
theorem da:∀(ms:List Mem) (m:Mem) (p:Nat) (f:Bool),At ms m.name p f ->
 aQ ms m=if f=true then(if eH m (ms.getD p dm)=true then ms.set p m else ms) else ms.take p++m::ms.drop p
 |[],m,p,f,h=>by
  have hp:p=0:=by have:=h.le;simpa using this
  subst hp;have hf:f=false:=by
   cases f
   .rfl
   .have:=h.is.1 rfl;simp at this
  subst hf;simp[aQ]
 |x::r,m,0,f,h=>by
  have h0:=h.hi 0 (Ic _) (by simp);simp only[I2] at h0;rw[aQ,if_neg (by omega)];cases f
  .have aT:¬ bO x.name m.name=0:=λe=>by have:=h.is.2 ⟨by simp,by simpa using e⟩;cases this
   rw[if_neg aT];simp
  .have he:=(h.is.1 rfl).2
   simp only[I2] at he;rw[if_pos he];simp only[I2,List.set_cons_zero,if_pos]
 |x::r,m,p+1,f,h=>by
  have h0:=h.lo 0 (by omega);simp only[I2] at h0;have hr:At r m.name p f:=⟨by have:=h.le;simpa using this,λj hj=>by have:=h.lo (j+1) (by omega);simpa using this,
   λj hj hl=>by have:=h.hi (j+1) (by omega) (by simpa using hl);simpa using this,by have:=h.is;simpa using this⟩
  rw[aQ,if_pos h0,da r m p f hr];cases f
  .simp
  .simp only[if_pos,Jz,Oq]
   split<;>rfl
theorem fH:∀(ms:List Mem) (m x:Mem),x∈aQ ms m->x=m\/x∈ms
 |[],m,x,h=>by simp[aQ] at h;exact .inl h
 |y::r,m,x,h=>by
  rw[aQ] at h;split at h
  .rcases IQ.1 h with rfl|h
   .exact .inr (by simp)
   .rcases fH r m x h with h|h
    .exact .inl h
    .exact .inr (by simp[h])
  .split at h
   .split at h
    .rcases IQ.1 h with h|h
     .exact .inl h
     .exact .inr (by simp[h])
    .exact .inr h
   .rcases IQ.1 h with h|h
    .exact .inl h
    .exact .inr h
theorem iw:∀(ms:List Mem) (m:Mem),bl ms->bl (aQ ms m)
 |[],m,_=>by simp[aQ]
 |x::r,m,h=>by
  have hx:=JD.1 h;rw[aQ];split
  .rename_i aR
   refine JD.2 ⟨λy hy=>?_,iw r m hx.2⟩;rcases fH r m y hy with rfl|hy
   .exact(fC _ _).1 aR
   .exact hx.1 y hy
  .rename_i aR
   split
   .rename_i he
    have hn:=(bR _ _).1 he;split
    .exact JD.2 ⟨λy hy=>by rw[<- hn];exact hx.1 y hy,hx.2⟩
    .exact h
   .rename_i he
    have hg:less m.name x.name=true:=(mW _ _).1 (by omega);refine JD.2 ⟨λy hy=>?_,h⟩;rcases IQ.1 hy with rfl|hy
    .exact hg
    .exact fY hg (hx.1 y hy)
theorem kP:∀(ms:List Mem) (m:Mem),ms.length<=(aQ ms m).length/\(aQ ms m).length<=ms.length+1
 |[],m=>by simp[aQ]
 |x::r,m=>by
  have:=kP r m;rw[aQ];split
  .simp;omega
  .split
   .split<;>simp
   .simp
def av(a b:List Mem):List Mem:=b.foldl aQ a
theorem dD:∀(b a:List Mem),bl a->bl (av a b)
 |[],_,h=>h
 |m::r,a,h=>dD r (aQ a m) (iw a m h)
theorem df:∀(b a:List Mem),(av a b).length<=a.length+b.length
 |[],_=>by simp[av]
 |m::r,a=>by
  have h1:=df r (aQ a m);have h2:=kP a m;simp only[av,OA,Iz] at *;omega
theorem ed{ms:List Mem}{nm:ByteArray}{p q:Nat}{f e:Bool}(h:At ms nm p f)(k:At ms nm q e):p=q/\f=e:=by
 have GD:p=q:=by
  rcases Nat.lt_trichotomy p q with aR|rfl|aR
  .have h1:=k.lo p aR
   have h2:=h.hi p (Ic _) (by have:=k.le;omega);omega
  .rfl
  .have h1:=h.lo q aR
   have h2:=k.hi q (Ic _) (by have:=h.le;omega);omega
 subst GD;refine⟨rfl,?_⟩;rw[Bool.eq_iff_iff,h.is,k.is]
theorem pt{ms:List Mem}{m:Mem}(h:∀m∈ms,m.name.size<=Io)(hm:m.name.size<=Io):∀x∈aQ ms m,x.name.size<=Io:=by
 intro x hx;rcases fH ms m x hx with rfl|hx
 .exact hm
 .exact h x hx
theorem iJ:∀(b a:List Mem),(∀m∈a,m.name.size<=Io)->(∀m∈b,m.name.size<=Io)->∀x∈av a b,x.name.size<=Io
 |[],_,ha,_=>ha
 |m::r,a,ha,hb=>iJ r (aQ a m) (pt ha (hb m (by simp))) (λx hx=>hb x (by simp[hx]))
theorem gj(a b:List Mem)(j:Nat)(hj:j<b.length):av a (b.take (j+1))=aQ (av a (b.take j)) (b.getD j dm):=by
 have e:b.getD j dm=b[j]:=by simp[Iq,Ie hj]
 rw[e,List.take_succ_eq_append_getElem hj,av,List.foldl_append,av];rfl
theorem tD:∀(a:List Mem) (m:Mem),(∀x∈a,less x.name m.name=true)->aQ a m=a++[m]
 |[],_,_=>rfl
 |x::r,m,h=>by
  rw[aQ,if_pos ((fC _ _).2 (h x (by simp))),tD r m (λy hy=>h y (by simp[hy]))];rfl
theorem vQ:∀(b a:List Mem),bl (a++b)->av a b=a++b
 |[],a,_=>by simp[av]
 |m::r,a,h=>by
  have h1:=tD a m λx hx=>(List.pairwise_append.1 h).2.2 x hx m (by simp);have h2:=vQ r (a++[m]) (by simpa using h);simp only[av,OA,h1] at h2 ⊢;rw[h2];simp
theorem iu(b:List Mem)(h:bl b):av [] b=b:=vQ b [] h
theorem af{ms:List Mem}(h:bj ms=0):ms.length<=20/\bl ms/\aU ms=0:=by
 unfold bj at h;split at h
 .omega
 .split at h
  .rename_i h1 h2
   split at h
   .rename_i h3
    exact⟨by omega,lp ms h3,h2⟩
   .omega
  .rename_i h1 h2;exact absurd h h2
def aO(a b:List Mem):Int:=if bj a=0 then bj b else bj a
def dE(a b:List Mem)(k:Nat):List Mem:=if k=0 then[] else if k=1 then a else av a b
def aE(a b:List Mem):Int:=if aO a b=0 then(if 20<(av a b).length then 2 else 0) else aO a b
theorem fp(ms:List Mem)(h:∀j,j+1<ms.length->bO (ms.getD j dm).name (ms.getD (j+1) dm).name<0):aK ms=true:=gv ms λj hj=>(fC _ _).1 (h j hj)
theorem fq(ms:List Mem)(h:aK ms=true):∀j,j+1<ms.length->bO (ms.getD j dm).name (ms.getD (j+1) dm).name<0:=λj hj=>(fC _ _).2 (ib ms h j hj)
theorem qZ(ms:List Mem)(hn:ms.length<=20)(hz:∀j,j<ms.length->(ms.getD j dm).e=0):bj ms=if aK ms=true then 0 else 4:=by
 rw[bj,if_neg (by omega),cB ms hz,if_pos rfl]
def cK(ms:List Mem)(t:ByteArray):Option Mem:=ms.find? λm=>decide (m.name=t)
def fc(ms:List Mem)(t:ByteArray):Mem:=(cK ms t).getD dm
theorem qu{ms:List Mem}{t:ByteArray}(h:∀j,j<ms.length->(ms.getD j dm).name≠t):cK ms t=be:=by
 unfold cK;rw[List.find?_eq_none];intro x hx;obtain⟨j,hj,rfl⟩:=I3 hx;have:=h j hj;rw[show ms.getD j dm=ms[j] by simp[Iq,Ie hj]] at this;simpa using this
theorem nr{ms:List Mem}{t:ByteArray}{k:Nat}(hk:k<ms.length)(h1:∀j,j<k->(ms.getD j dm).name≠t)(h2:(ms.getD k dm).name=t):cK ms t=AI (ms.getD k dm):=by
 unfold cK;rw[show ms.getD k dm=ms[k] by simp[Iq,Ie hk]] at h2 ⊢;rw[List.find?_eq_some_iff_getElem];refine⟨by simpa using h2,k,hk,rfl,λj hj=>?_⟩;have:=h1 j hj;rw[show ms.getD j dm=ms[j]'(by omega) by simp[Iq,Ie (show j<ms.length by omega)]] at this;simpa using this
theorem pc{ms:List Mem}{t:ByteArray}{m:Mem}(h:cK ms t=AI m):m∈ms/\m.name=t:=by
 unfold cK at h;exact⟨List.mem_of_find?_eq_some h,by simpa using List.find?_some h⟩
end Go.Proofs.YtfidhgjmifendaaGreatDoor
namespace Go.Proofs.YtfidhgjmifendaaGreatDoor
namespace Sv
open Go.RowKit
theorem eV(ms:List aW)(v:Value)(w:World)(h:Sl w v ms)(hn:ms.length<=1000) :
 aF 59 #[v] w λe w'=>∃v',e=AT v'/\Own w.heap.size w' v' ms/\Below w.heap.size w w':=by
 obtain⟨a,cap,rfl,hs,h⟩:=h;obtain⟨i0,fW,dd,gY,gG⟩:=I6 Tryz.qm;cases a with
 |none=>
  have he:ms=[]:=by
   rcases h with h|⟨b,off,h,_⟩
   .exact h
   .cases h
  subst he;clear h hs;have gM:=λ(w:World)=>Lib.run_eql_slice_nil (P:=AS) w 36 46 be 0 cap 0 0 J5;simp only[List.length_nil,Option.isNone_none] at gM ⊢;go_enter Tryz.func59,Tryz.ntmps59;go_wp2_with fail;go_ret;exact⟨_,rfl,bX _ _,Below.refl _ _⟩
 |some a=>
  have gM:=λ(w:World)=>Lib.run_eql_slice_nil (P:=AS) w 36 46 (AI a) ms.length cap 0 0 J5;simp only[Option.isNone_some] at gM;have hnews:Hid (∀j u,(fl ms)[j]?=AI u->(w.alloc (By #[] 46)).cell? (a.add j)=AI u):=by
   intro j u hj;rcases h with h|⟨b,off,h,hb,hr⟩
   .subst h;simp[fl] at hj
   .cases h
    have RG:j<ms.length*9:=by rw[<- cM];exact(List.getElem?_eq_some_iff.1 hj).1
    have h1:=ec ms (j/9) (by omega) (j%9) (by omega);rw[show j/9*9+j%9=j by omega,hj] at h1;rw[Addr.add_lit,World.cell?_alloc_past (w:=w) _ b _ hb];obtain⟨c0,c1,c2,c3,c4,c5,c6,c7,c8⟩:=hr (j/9) (by omega);have bZ:j%9=0\/j%9=1\/j%9=2\/j%9=3\/j%9=4\/j%9=5\/j%9=6\/j%9=7\/j%9=8:=by omega
    rcases bZ with e|e|e|e|e|e|e|e|e
    .rw[show off+j=off+j/9*9 by omega,c0];rw[e] at h1;simpa[aW.cs] using h1.symm
    .rw[show off+j=off+j/9*9+1 by omega,c1];rw[e] at h1;simpa[aW.cs] using h1.symm
    .rw[show off+j=off+j/9*9+2 by omega,c2];rw[e] at h1;simpa[aW.cs] using h1.symm
    .rw[show off+j=off+j/9*9+3 by omega,c3];rw[e] at h1;simpa[aW.cs] using h1.symm
    .rw[show off+j=off+j/9*9+4 by omega,c4];rw[e] at h1;simpa[aW.cs] using h1.symm
    .rw[show off+j=off+j/9*9+5 by omega,c5];rw[e] at h1;simpa[aW.cs] using h1.symm
    .rw[show off+j=off+j/9*9+6 by omega,c6];rw[e] at h1;simpa[aW.cs] using h1.symm
    .rw[show off+j=off+j/9*9+7 by omega,c7];rw[e] at h1;simpa[aW.cs] using h1.symm
    .rw[show off+j=off+j/9*9+8 by omega,c8];rw[e] at h1;simpa[aW.cs] using h1.symm
  have HO:Hid ((w.alloc (By #[] 46)).ownsRow w.heap.size 46 9 (J (AI ⟨w.heap.size,0,be⟩) 0 0) 0 []):=World.ownsRow_made w #[] 0 (Ic _) (by unfold Io;omega) rfl;clear h hs;go_enter Tryz.func59,Tryz.ntmps59;go_wp2_with (at_builtin;refine Ja _ rfl _ _ 36 rfl w.heap.size 46 i0 _ 9 104 J5 fW dd gY gG rfl (by omega) _ 0 [] rfl HO.out a ms.length cap (fl ms) rfl (cM ms) hnews.out (gJ ms) (by unfold Io;omega) (by omega) (by simp) ?_);intro v' w' r1 r2 r3;go_wp2_with fail;go_ret;refine⟨v',rfl,?_,?_⟩
  .simpa using r1
  .exact((Below.refl _ _).alloc (Ic _) _).grown r2 (by simp) (λk hk=>by simp[Jx] at hk;omega)
end Sv
end Go.Proofs.YtfidhgjmifendaaGreatDoor
