import Derived.Test.YtfidjlcdlakceaaGreatDoortf11
import Derived.Test.YtfidjlcdlakceaaGreatDoortf5
import Derived.Test.YtfidjlcdlakceaaGreatDoortf14
import Derived.Test.YtfidjlcdlakceaaGreatDoortf15
set_option maxHeartbeats 12800000
set_option maxRecDepth 100000
open Go.Value renaming string→I,slice→U,int→O,agg→Im,bool→AI,tuple→Il
open Option renaming none→Y,some→Z
open ByteArray renaming empty→Ih
open Go renaming maxLen→Ij,info_parts→I0,wpList_append_own→I5,heap_alloc_new→Ie,step_append_lies→QD,bodyPost_ret→Ix
open Nat renaming lt_of_lt_of_le→Iv,le_refl→By,zero_le→II
open Go.Ending renaming returned→sh
open Go.Proofs.Tryz renaming prog→be,underlying111→Jt,underlying9→IE,underlying24→JK
open Go.RowKit.Below renaming refl→Ib,heap_alloc→It
open Go.Obj renaming cells→AT
open List renaming getD→Io,getElem?_eq_getElem→Ic,pairwise_cons→Jl,mem_cons_self→JO,mem_cons→Jd,take_succ_eq_append_getElem→Iw,foldl_append→QA,take_of_length_le→IS,length_take→Iu,take_length→OC,length_append→Ii,length_cons→IY,eq_nil_of_length_eq_zero→IX,getElem?_take_of_lt→IF,getElem_mem→IV,getElem?_eq_none→IP,length_take_le→JV,mem_of_mem_take→Jm,mem_flatMap→OT,mem_filter→Ox,filter_append→JP,length_filter_le→Ow
open Go.IntKind renaming i64→J
open Array renaming getElem?_eq_some_iff→Ia
open Go.World.ownsRow renaming lt→I6,kept→QN,cellAt→O0,alloc→J9
open Option.some renaming injEq→Jn,inj→J2
open Go.World renaming ownsRow_nil→Jp,block_lt_of_cell?→IH,news_of_block→Oo
open Go.Instr renaming lookup→J7
namespace Go.Proofs.YtfidjlcdlakceaaGreatDoor
open Go.RowKit
theorem below_drewN{B:Nat}{w w1:World}(h:Below B w w1)(m:Nat):Below B w (w1.drewN m):=⟨h.os,h.tape,h.output,h.size,h.block⟩
def XT(w:World)(b off:Nat)(ss:List ByteArray):Prop:=∀j,j<ss.length->w.cell? ⟨b,off+j,Y⟩=Z (I (ss.getD j Ih))
def zM(w:World)(v:Value)(ss:List ByteArray):Prop:=
 ∃(a:Option Addr) (cap:Nat),v=U a ss.length cap/\(∀j,(ss.getD j Ih).size<=Ij)/\(ss=[]\/∃b off,a=Z ⟨b,off,Y⟩/\b<w.heap.size/\XT w b off ss)
theorem zM.below{w w':World}{v:Value}{ss:List ByteArray}(h:zM w v ss)(hb:Below w.heap.size w w'):zM w' v ss:=by
 obtain⟨a,c,hv,hn,h⟩:=h;refine⟨a,c,hv,hn,?_⟩;rcases h with h|⟨b,off,ha,aL,hr⟩
 .exact .inl h
 .exact .inr ⟨b,off,ha,Iv aL hb.size,λj hj=>(hb.cell (p:=⟨b,off+j,Y⟩) aL).trans (hr j hj)⟩
theorem C8(ss:List ByteArray)(v:Value)(w:World)(h:zM w v ss)(hn:ss.length<=1000) :
 Calls be 267 #[v] w λe w'=>∃v',e=sh v'/\dC w.heap.size w' v' ss/\Below w.heap.size w w':=by
 obtain⟨a,cap,rfl,hs,h⟩:=h;obtain⟨i0,ei,bW,fs,eU⟩:=I0 Tryz.yz;cases a with
 |none=>
  have he:ss=[]:=by
   rcases h with h|⟨b,off,h,_⟩
   .exact h
   .cases h
  subst he;clear h hs;have iD:=λ(w:World)=>Lib.run_eql_slice_nil (P:=be) w 111 9 Y 0 cap 0 0 Jt;simp only[List.length_nil,Option.isNone_none] at iD ⊢;go_enter Tryz.func267,Tryz.ntmps267;go_wp2_with fail;go_ret;exact⟨_,rfl,qw _ _,Ib _ _⟩
 |some a=>
  have iD:=λ(w:World)=>Lib.run_eql_slice_nil (P:=be) w 111 9 (Z a) ss.length cap 0 0 Jt;simp only[Option.isNone_some] at iD;have hnews:Hid (∀j u,(ss.map I)[j]?=Z u->(w.alloc (AT #[] 9)).cell? (a.add j)=Z u):=by
   intro j u hj;rcases h with h|⟨b,off,h,hb,hr⟩
   .subst h;simp at hj
   .cases h
    have hl:j<ss.length:=by have:=(List.getElem?_eq_some_iff.1 hj).1;simpa using this
    rw[Addr.add_lit,World.cell?_alloc_past (w:=w) _ b _ hb,hr j hl];simpa[Io,Ic hl] using hj
  have HO:Hid ((w.alloc (AT #[] 9)).ownsRow w.heap.size 9 1 (U (Z ⟨w.heap.size,0,Y⟩) 0 0) 0 []):=World.ownsRow_made w #[] 0 (By _) (by unfold Ij;omega) rfl;clear h hs;go_enter Tryz.func267,Tryz.ntmps267;go_wp2_with (at_builtin;refine I5 _ rfl _ _ 111 rfl w.heap.size 9 i0 _ 1 16 Jt ei bW fs eU rfl (by omega) _ 0 [] rfl HO.out a ss.length cap (ss.map I) rfl (by simp) hnews.out (o8 ss) (by unfold Ij;omega) (by omega) (by simp) ?_);intro v' w' r1 r2 r3;go_wp2_with fail;go_ret;refine⟨v',rfl,?_,?_⟩
  .simpa using r1
  .exact((Ib _ _).alloc (By _) _).grown r2 (by simp) (λk hk=>by simp[Value.ownBlock] at hk;omega)
end Go.Proofs.YtfidjlcdlakceaaGreatDoor
namespace Go.Proofs.YtfidjlcdlakceaaGreatDoor
namespace So
open Go.Sort
section
variable {α:Type}
abbrev Up(lt:α->α->Bool)(l:List α):Prop:=l.Pairwise λa b=>lt b a=false
theorem WE{lt:α->α->Bool}(ha:∀a b,lt a b=false->lt b a=false->a=b):∀{l m:List α},l.Perm m->Up lt l->Up lt m->l=m
 |[],m,hp,_,_=>(List.Perm.nil_eq hp)
 |a::l,[],hp,_,_=>by have:=hp.length_eq;simp at this
 |a::l,b::m,hp,h1,h2=>by
  have CR:=Jl.1 h1;have yA:=Jl.1 h2;have Ww:a=b:=by
   have m1:a∈b::m:=hp.mem_iff.1 (JO ..);have m2:b∈a::l:=hp.mem_iff.2 (JO ..);rcases Jd.1 m1 with e|e
   .exact e
   .rcases Jd.1 m2 with f|f
    .exact f.symm
    .exact ha a b (yA.1 a e) (CR.1 b f)
  subst Ww;rw[WE ha (List.Perm.cons_inv hp) CR.2 yA.2]
def pos(lt:α->α->Bool)(x:α):List α->Nat
 |[]=>0
 |y::r=>if lt x y=false then pos lt x r+1 else 0
def ins(lt:α->α->Bool)(x:α)(l:List α):List α:=l.take (pos lt x l)++x::l.drop (pos lt x l)
theorem An(lt:α->α->Bool)(x:α)(l:List α):(ins lt x l).Perm (x::l):=by
 unfold ins;refine List.perm_middle.trans ?_;rw[List.take_append_drop]
theorem Na(lt:α->α->Bool)(x y:α)(r:List α):ins lt x (y::r)=if lt x y=false then y::ins lt x r else x::y::r:=by
 unfold ins;by_cases h:lt x y=false
 .rw[if_pos h,pos,if_pos h];rfl
 .rw[if_neg h,pos,if_neg h];rfl
theorem Nb{lt:α->α->Bool}(hs:SWO lt)(x:α):∀{l:List α},Up lt l->Up lt (ins lt x l)
 |[],_=>by simp[ins,pos]
 |y::r,h=>by
  have h':=Jl.1 h;rw[Na];split
  .rename_i hy
   refine Jl.2 ⟨λz hz=>?_,Nb hs x h'.2⟩;rcases Jd.1 ((An lt x r).mem_iff.1 hz) with rfl|hz
   .exact hy
   .exact h'.1 z hz
  .rename_i hy
   have hy':lt x y=true:=by simpa using hy
   have hyx:lt y x=false:=by
    cases h2:lt y x
    .rfl
    .have:=hs.trans x y x hy' h2
     rw[hs.irrefl x] at this;cases this
   refine Jl.2 ⟨λz hz=>?_,h⟩;rcases Jd.1 hz with rfl|hz
   .exact hyx
   .exact hs.ntrans z y x (h'.1 z hz) hyx
def dU(lt:α->α->Bool)(l:List α):List α:=l.foldl (λout x=>ins lt x out) []
theorem Ao(lt:α->α->Bool)(l:List α)(k:Nat)(d:α)(hk:k<l.length):dU lt (l.take (k+1))=ins lt (l.getD k d) (dU lt (l.take k)):=by
 rw[Iw hk,dU,QA];simp[Io,Ic hk,dU]
theorem nj{lt:α->α->Bool}(hs:SWO lt)(l:List α):∀k,Up lt (dU lt (l.take k))/\(dU lt (l.take k)).Perm (l.take k)
 |0=>by simp[dU]
 |k+1=>by
  obtain⟨h1,h2⟩:=nj hs l k;by_cases hk:k<l.length
  .rw[Ao lt l k l[k] hk]
   refine⟨Nb hs _ h1,(An _ _ _).trans ?_⟩;rw[Iw hk];have e:l.getD k l[k]=l[k]:=by simp[Io,Ic hk]
   rw[e];exact(List.Perm.cons _ h2).trans (List.perm_append_singleton _ _).symm
  .rw[IS (by omega)]
   rw[IS (by omega)] at h1 h2;exact⟨h1,h2⟩
theorem C9(lt:α->α->Bool)(l:List α)(hs:SWO lt)(k:Nat)(hk:k<=l.length):(dU lt (l.take k)).length=k:=by
 rw[(nj hs l k).2.length_eq,Iu];omega
theorem GF{lt:α->α->Bool}(hs:SWO lt)(ha:∀a b,lt a b=false->lt b a=false->a=b){l m:List α}(hp:m.Perm l)(hu:Up lt m):m=dU lt l:=by
 obtain⟨h1,h2⟩:=nj hs l l.length;rw[OC] at h1 h2;exact WE ha (hp.trans h2.symm) hu h1
end
end So
end Go.Proofs.YtfidjlcdlakceaaGreatDoor
namespace Go.Proofs.YtfidjlcdlakceaaGreatDoor
open Go.RowKit Go.Sort Go.Lib Go.WideMaps Go.Maps
def cfN(d:ByteArray->Int)(a b:ByteArray):Int:=MQ (tG (d a) (d b)) (bz a b)
theorem Tv(d:ByteArray->Int)(a b:ByteArray):cfN d a b<0↔d a<d b\/(d a=d b/\bz a b<0):=by
 unfold cfN MQ tG;generalize d a=x;generalize d b=y
 repeat' split
 all_goals omega
def yB(d:ByteArray->Int)(a b:ByteArray):Bool:=decide (cfN d a b<0)
theorem Ap(d:ByteArray->Int)(a b:ByteArray):yB d a b=true↔d a<d b\/(d a=d b/\bz a b<0):=by
 rw[yB,decide_eq_true_iff,Tv]
theorem qA(d:ByteArray->Int)(a b:ByteArray):yB d a b=false↔¬ (d a<d b\/(d a=d b/\bz a b<0)):=by
 rw[<- Ap,Bool.not_eq_true]
theorem Tw{a b c:ByteArray}(h1:¬ bz a b<0)(h2:¬ bz b c<0):¬ bz a c<0:=λh=>by
 rcases Int.lt_trichotomy (bz a b) 0 with h3|h3|h3
 .exact h1 h3
 .have e:=(cU a b).1 h3
  rw[e] at h;exact h2 h
 .exact h2 (oj b a c ((qB a b).1 h3) h)
theorem GG(d:ByteArray->Int):SWO (yB d) where
 irrefl x:=by rw[qA,xn];omega
 trans x y z h1 h2:=by
  rw[Ap] at *;rcases h1 with h1|⟨h1,h3⟩
  .rcases h2 with h2|⟨h2,_⟩<;>omega
  .rcases h2 with h2|⟨h2,h4⟩
   .omega
   .exact .inr ⟨by omega,oj x y z h3 h4⟩
 ntrans x y z h1 h2:=by
  rw[qA] at *;rintro(h|⟨h,h3⟩)
  .omega
  .have hd:d x=d y/\d y=d z:=by omega
   exact Tw (λh4=>h1 (.inr ⟨hd.1,h4⟩)) (λh4=>h2 (.inr ⟨hd.2,h4⟩)) h3
theorem Nc(d:ByteArray->Int)(a b:ByteArray)(h1:yB d a b=false)(h2:yB d b a=false):a=b:=by
 rw[qA] at *;have hd:d a=d b:=by omega
 have h3:¬ bz a b<0:=λh=>h1 (.inr ⟨hd,h⟩);have h4:¬ bz b a<0:=λh=>h2 (.inr ⟨hd.symm,h⟩);have h5:=qB a b;exact(cU a b).1 (by omega)
def GH(p:Pl)(ms:List Wh.bC)(ns:List ByteArray):List ByteArray:=So.dU (yB (dV (Dd (iO p) ms ms.length))) ns
end Go.Proofs.YtfidjlcdlakceaaGreatDoor
namespace Go.Proofs.YtfidjlcdlakceaaGreatDoor
namespace Rc
open Go.RowKit
structure Rec where
 name:ByteArray
 an:Int
 aK:Int
 addr:Int
 text:ByteArray
 port:Int
 target:ByteArray
def dm:Rec:=⟨Ih,0,0,0,Ih,0,Ih⟩
def Rec.ok(m:Rec):Prop:=m.name.size<=Ij/\m.text.size<=Ij/\m.target.size<=Ij
theorem nU:dm.ok:=by simp[Rec.ok,dm]
abbrev As(w:World)(b o:Nat)(m:Rec):Prop:=w.cell? ⟨b,o,Y⟩=Z (I m.name)/\w.cell? ⟨b,o+1,Y⟩=Z (O J m.an)/\w.cell? ⟨b,o+2,Y⟩=Z (O J m.aK)/\w.cell? ⟨b,o+3,Y⟩=Z (O J m.addr)/\w.cell? ⟨b,o+4,Y⟩=Z (I m.text)/\w.cell? ⟨b,o+5,Y⟩=Z (O J m.port)/\w.cell? ⟨b,o+6,Y⟩=Z (I m.target)
theorem As.eq{w w':World}{b o:Nat}{m:Rec}(h:As w b o m)(e:∀o,w'.cell? ⟨b,o,Y⟩=w.cell? ⟨b,o,Y⟩):As w' b o m:=by
 obtain⟨c0,c1,c2,c3,c4,c5,c6⟩:=h;exact⟨(e _).trans c0,(e _).trans c1,(e _).trans c2,(e _).trans c3,(e _).trans c4,(e _).trans c5,(e _).trans c6⟩
def Row(w:World)(b off:Nat)(ms:List Rec):Prop:=∀j,j<ms.length->As w b (off+j*7) (ms.getD j dm)
def Sl(w:World)(v:Value)(ms:List Rec):Prop:=
 ∃(a:Option Addr) (cap:Nat),v=U a ms.length cap/\(∀j,(ms.getD j dm).ok) /\
  (ms=[]\/∃b off,a=Z ⟨b,off,Y⟩/\b<w.heap.size/\Row w b off ms)
def Rec.cs(m:Rec):List Value:=[I m.name,O J m.an,O J m.aK,O J m.addr,I m.text,O J m.port,I m.target]
def fl(ms:List Rec):List Value:=ms.flatMap Rec.cs
theorem bl(m:Rec):m.cs.length=7:=rfl
theorem aT(m:Rec)(r:List Rec):fl (m::r)=m.cs++fl r:=by simp[fl]
theorem cF(a b:List Rec):fl (a++b)=fl a++fl b:=by simp[fl]
theorem cT:∀ms:List Rec,(fl ms).length=ms.length*7
 |[]=>rfl
 |m::r=>by rw[aT,Ii,cT r,bl,IY];omega
theorem cC(m:Rec):∀v∈m.cs,v.oneCell'=true:=by
 intro v hv;simp[Rec.cs] at hv;rcases hv with rfl|rfl|rfl|rfl|rfl|rfl|rfl<;>rfl
theorem ed(ms:List Rec)(j:Nat)(hj:j<ms.length)(t:Nat)(ht:t<7):(fl ms)[j*7+t]?=(ms.getD j dm).cs[t]?:=by
 induction ms generalizing j with
 |nil=>simp at hj
 |cons m r ih=>
  rw[aT];cases j with
  |zero=>rw[List.getElem?_append_left (by rw[bl];omega)];simp
  |succ j=>
   rw[List.getElem?_append_right (by rw[bl];omega),bl,show(j+1)*7+t-7=j*7+t by omega,ih j (by simpa using hj)];simp
abbrev Own(base:Nat)(w:World)(v:Value)(ms:List Rec):Prop:=w.ownsRow base 64 7 v ms.length (fl ms)
theorem fV{base g G:Nat}{w:World}{cur:Array Value}{ms:List Rec}(hb:base<=g)(hg:w.heap[g]?=Z (AT cur 64 (0,0)))(hs:cur.size=G*7)(hn:ms.length<=G)(hG:G<=Ij)(ht:cur.toList.take (ms.length*7)=fl ms) :
 Own base w (U (Z ⟨g,0,Y⟩) ms.length G) ms:=⟨cT ms,.inr ⟨g,G,cur,rfl,hb,hg,hn,hG,hs,ht⟩⟩
theorem Own.sl{base:Nat}{w:World}{v:Value}{ms:List Rec}(h:Own base w v ms)(hs:∀j,(ms.getD j dm).ok):Sl w v ms:=by
 rcases h.2 with⟨rfl,h0⟩|⟨g,c,cur,rfl,dQ,hg,eC,dj,cM,aO⟩
 .exact⟨Y,0,by rw[h0],hs,.inl (IX h0)⟩
 .refine⟨_,c,rfl,hs,.inr ⟨g,0,rfl,(Ia.1 hg).1,λj hj=>?_⟩⟩
  have hc:∀t,t<7->w.cell? ⟨g,0+j*7+t,Y⟩=(ms.getD j dm).cs[t]?:=λt ht=>by
   rw[af hg,<- ed ms j hj t ht,<- aO,IF (by omega)];simp
  exact⟨hc 0 (by omega),hc 1 (by omega),hc 2 (by omega),hc 3 (by omega),hc 4 (by omega),hc 5 (by omega),hc 6 (by omega)⟩
theorem Own.below{base:Nat}{w w':World}{v:Value}{ms:List Rec}(h:Own base w v ms)(hb:Below w.heap.size w w'):Own base w' v ms:=by
 rcases h.2 with⟨rfl,h0⟩|⟨g,c,cur,rfl,dQ,hg,eC,dj,cM,aO⟩
 .exact⟨h.1,.inl ⟨rfl,h0⟩⟩
 .have aL:=(Ia.1 hg).1
  exact⟨h.1,.inr ⟨g,c,cur,rfl,dQ,(hb.block g aL).trans hg,eC,dj,cM,aO⟩⟩
theorem Own.lt{base:Nat}{w:World}{v:Value}{ms:List Rec}(h:Own base w v ms)(k:Nat)(hk:v.ownBlock=Z k):base<=k/\k<w.heap.size:=I6 h k hk
theorem dH{base g c:Nat}{w:World}{ms:List Rec}(h:Own base w (U (Z ⟨g,0,Y⟩) ms.length c) ms)(j:Nat)(hj:j<ms.length) :
 As w g (j*7) (ms.getD j dm):=by
 rcases h.2 with⟨h1,_⟩|⟨g',c',cur,h1,dQ,hg,eC,dj,cM,aO⟩
 .cases h1
 .simp only[Value.slice.injEq,Jn,Addr.mk.injEq] at h1
  obtain⟨⟨rfl,_,_⟩,_,_⟩:=h1;have hc:∀t,t<7->w.cell? ⟨g,j*7+t,Y⟩=(ms.getD j dm).cs[t]?:=λt ht=>by
   rw[af hg,<- ed ms j hj t ht,<- aO,IF (by omega)];simp
  exact⟨hc 0 (by omega),hc 1 (by omega),hc 2 (by omega),hc 3 (by omega),hc 4 (by omega),hc 5 (by omega),hc 6 (by omega)⟩
theorem eL{base:Nat}{w:World}{v:Value}{ms:List Rec}(h:Own base w v ms)(p:Nat)(hp:p<ms.length):∃g c,v=U (Z ⟨g,0,Y⟩) ms.length c:=by
 rcases h.2 with⟨_,h0⟩|⟨g,c,cur,h1,_⟩
 .omega
 .exact⟨g,c,h1⟩
theorem Sl.below{w w':World}{v:Value}{ms:List Rec}(h:Sl w v ms)(hb:Below w.heap.size w w'):Sl w' v ms:=by
 obtain⟨a,cap,rfl,hs,h⟩:=h;refine⟨a,cap,rfl,hs,?_⟩;rcases h with h|⟨b,off,rfl,aL,hr⟩
 .exact .inl h
 .refine .inr ⟨b,off,rfl,Iv aL hb.size,λj hj=>?_⟩
  exact(hr j hj).eq (λo=>(cH hb).1 b o aL)
theorem Own.mono{base jS:Nat}{w:World}{v:Value}{ms:List Rec}(h:Own base w v ms)(hb:jS<=base):Own jS w v ms:=by
 rcases h.2 with⟨rfl,h0⟩|⟨g,c,cur,rfl,dQ,hg,eC,dj,cM,aO⟩
 .exact⟨h.1,.inl ⟨rfl,h0⟩⟩
 .exact⟨h.1,.inr ⟨g,c,cur,rfl,Nat.le_trans hb dQ,hg,eC,dj,cM,aO⟩⟩
theorem bj(base:Nat)(w:World):Own base w (U Y 0 0) []:=Jp w base 64 7
theorem cB{ms:List Rec}(h:∀m∈ms,(m).ok):∀j,(ms.getD j dm).ok:=by
 intro j;by_cases hj:j<ms.length
 .have:=h ms[j] (IV hj)
  simpa[Io,Ic hj] using this
 .rw[Io,IP (Nat.le_of_not_lt hj)];exact nU
theorem gd{base:Nat}{w:World}{v:Value}{ms:List Rec}(h:Own base w v ms)(hs:∀m∈ms,(m).ok):Sl w v ms:=h.sl (cB hs)
theorem eM{base:Nat}{w:World}{v:Value}{L:List Rec}{m:Rec}(h:w.ownsRow base 64 7 v (L.length+1) (fl L++m.cs)):Own base w v (L++[m]):=by
 have e:fl (L++[m])=fl L++m.cs:=by rw[cF,aT];simp[fl]
 show w.ownsRow base 64 7 v (L++[m]).length (fl (L++[m]));rw[e,Ii];exact h
end Rc
end Go.Proofs.YtfidjlcdlakceaaGreatDoor
namespace Go.Proofs.YtfidjlcdlakceaaGreatDoor
open Go.RowKit
def GI(acc:List ByteArray)(n:ByteArray):List ByteArray:=if acc.any (λy=>decide (y=n))=true then acc else acc++[n]
theorem Fb{acc:List ByteArray}{n:ByteArray}:acc.any (λy=>decide (y=n))=true↔n∈acc:=by simp
theorem yC{acc:List ByteArray}{n:ByteArray}(h:n∈acc):GI acc n=acc:=if_pos (Fb.2 h)
theorem tO{acc:List ByteArray}{n:ByteArray}(h:n ∉ acc):GI acc n=acc++[n]:=if_neg (λh2=>h (Fb.1 h2))
def bP(L:List Sv.aI):List ByteArray:=L.foldl (λacc s=>GI acc s.node) []
theorem jT(L:List Sv.aI)(s:Sv.aI):bP (L++[s])=GI (bP L) s.node:=by simp[bP,QA]
theorem Aq{α:Type}{p:List α->Prop}(h0:p [])(h1:∀l x,p l->p (l++[x]))(l:List α):p l:=by
 have h:∀r:List α,p r.reverse:=by
  intro r;induction r with
  |nil=>exact h0
  |cons a r ih=>rw[List.reverse_cons];exact h1 _ _ ih
 have:=h l.reverse
 rwa [List.reverse_reverse] at this
theorem Nf{acc:List ByteArray}{n x:ByteArray}:x∈GI acc n↔x∈acc\/x=n:=by
 by_cases h:n∈acc
 .rw[yC h]
  exact⟨.inl,λh2=>h2.elim id (λe=>e▸h)⟩
 .rw[tO h];simp
theorem om(L:List Sv.aI):∀x,x∈bP L↔∃s∈L,s.node=x:=by
 refine Aq (p:=λL=>∀x,x∈bP L↔∃s∈L,s.node=x) (by simp[bP]) (λl s ih x=>?_) L;rw[jT,Nf,ih x];constructor
 .rintro(⟨y,hy,e⟩|rfl)
  .exact⟨y,List.mem_append_left _ hy,e⟩
  .exact⟨s,by simp,rfl⟩
 .rintro⟨y,hy,e⟩
  rcases List.mem_append.1 hy with h|h
  .exact .inl ⟨y,h,e⟩
  .simp at h;subst h;exact .inr e.symm
theorem tP(L:List Sv.aI):(bP L).length<=L.length:=by
 refine Aq (p:=λL=>(bP L).length<=L.length) (by simp[bP]) (λl s ih=>?_) L;rw[jT];by_cases hm:s.node∈bP l
 .rw[yC hm];simp;omega
 .rw[tO hm];simp;omega
def bQ(ms:List Mem)(L:List Sv.aI):List Sv.aI:=L.filter λs => !tL ms s.node
def jU(L:List Sv.aI)(n:ByteArray):List Sv.aI:=L.filter λs=>decide (s.node=n)
def gl(ns:List ByteArray)(L:List Sv.aI):List Sv.aI:=ns.flatMap (jU L)
def ib(p:Pl)(wh:List Wh.bC)(ms:List Mem)(found:List Sv.aI):List Sv.aI:=(gl (GH p wh (bP (bQ ms found))) (bQ ms found)).take 20
theorem Tx{p:Pl}{wh:List Wh.bC}{ns:List ByteArray}{x:ByteArray}:x∈GH p wh ns↔x∈ns:=by
 unfold GH;have h:=(So.nj (GG (dV (Dd (iO p) wh wh.length))) ns ns.length).2;rw[OC] at h;exact h.mem_iff
def qN(n here:ByteArray):Qu:=⟨⟨#[]⟩,⟨#[]⟩,n,here⟩
def jj(name here:ByteArray)(t:Int)(s:Sv.aI):Rc.Rec:=
 ⟨name,t,0,if t=1 then s.addr else 0,if t=16 then s.bF else⟨#[]⟩,if t=33 then s.port else 0,if t=33 then iy (qN s.node here) else⟨#[]⟩⟩
def ic(here:ByteArray)(t:Int)(s:Sv.aI):Int:=if t=33 then jk (qN s.node here) else 0
def ie(here:ByteArray)(t:Int):List Sv.aI->Int
 |[]=>0
 |s::r=>if ic here t s=0 then ie here t r else ic here t s
theorem xo{here:ByteArray}{t:Int}:∀{L:List Sv.aI},(∀j,j<L.length->ic here t (L.getD j Sv.dm)=0)->ie here t L=0
 |[],_=>rfl
 |s::r,h=>by
  have h0:=h 0 (by simp);simp at h0;rw[ie,if_pos h0];exact xo λj hj=>by have:=h (j+1) (by simpa using hj);simpa using this
theorem Ar{here:ByteArray}{t:Int}:∀{L:List Sv.aI} {k:Nat},k<L.length->(∀j,j<k->ic here t (L.getD j Sv.dm)=0)->ic here t (L.getD k Sv.dm)≠0->ie here t L=ic here t (L.getD k Sv.dm)
 |[],k,hk,_,_=>by simp at hk
 |s::r,0,_,_,h=>by
  simp at h;rw[ie,if_neg h];simp
 |s::r,k+1,hk,h,h2=>by
  have h0:=h 0 (by simp);simp at h0;rw[ie,if_pos h0];have:=Ar (L:=r) (k:=k) (by simpa using hk) (λj hj=>by have:=h (j+1) (by omega);simpa using this) (by simpa using h2);simpa using this
structure Ans where
 rs:List Rc.Rec
 code:Int
 e:Int
def ky(q:Qu)(t:Int)(here:ByteArray)(sv:List Sv.aI)(ms:List Mem)(p:Pl)(wh:List Wh.bC):Ans:=
 if Sv.bV sv q.service ⟨#[]⟩=[] then⟨[],3,0⟩
 else if ie here t (ib p wh ms (Sv.bV sv q.service q.tag))=0 then⟨(ib p wh ms (Sv.bV sv q.service q.tag)).map (jj (iy q) here t),0,0⟩
 else⟨[],0,ie here t (ib p wh ms (Sv.bV sv q.service q.tag))⟩
def kz(q:Qu)(t:Int)(ms:List Mem):Ans:=
 if(eD ms q.node).state=1\/(eD ms q.node).state=2 then(if t=1 then⟨[⟨iy q,1,0,(eD ms q.node).addr,⟨#[]⟩,0,⟨#[]⟩⟩],0,0⟩ else⟨[],0,0⟩) else⟨[],3,0⟩
def lI(q:Qu)(t:Int)(here:ByteArray)(sv:List Sv.aI)(ms:List Mem)(p:Pl)(wh:List Wh.bC):Ans:=
 if jk q=0 then(if q.ai.size≠0/\q.ai≠here then⟨[],3,0⟩ else if q.node.size≠0 then kz q t ms else ky q t here sv ms p wh) else⟨[],0,jk q⟩
def Au(p:Pl)(wh:List Wh.bC):Int:=if 20<wh.length then 2 else hZ (p::(dS wh).map dP)
def sR(here:ByteArray)(sv:List Sv.aI)(ms:List Mem)(p:Pl)(wh:List Wh.bC):Int:=
 if aN here=true then(if Sv.ba sv=0 then(if ba ms=0 then Au p wh else ba ms) else Sv.ba sv) else 1
theorem Av(p:Pl)(wh:List Wh.bC)(ms:List Mem)(L:List Sv.aI):(ib p wh ms L).length<=20:=by unfold ib;exact JV _ _
theorem Ng{p:Pl}{wh:List Wh.bC}{ms:List Mem}{L:List Sv.aI}{s:Sv.aI}(h:s∈ib p wh ms L):s∈L/\tL ms s.node=false:=by
 unfold ib gl at h;have h1:=Jm h;obtain⟨n,_,h2⟩:=OT.1 h1;have h3:=(Ox.1 h2).1;have h4:=Ox.1 h3;exact⟨h4.1,by simpa using h4.2⟩
end Go.Proofs.YtfidjlcdlakceaaGreatDoor
namespace Go.Proofs.YtfidjlcdlakceaaGreatDoor
open Go.RowKit Go.WideMaps Go.Maps
def Nh(v:Value):Option (DataW Value×List MemPlace):=Z (.held v,[])
def eW(w:World)(b n:Nat)(M:ByteArray->Value):Prop:=∃D:DataW Value,w.ownsMap be 9 Nh b n D/\∀s,D.atKey (kS s) (.held (U Y 0 0))=.held (M s)
def GJ(M:ByteArray->Value)(s:ByteArray)(v:Value):ByteArray->Value:=λx=>if x=s then v else M x
theorem kA(M:ByteArray->Value)(s:ByteArray)(v:Value):GJ M s v s=v:=if_pos rfl
theorem fW(M:ByteArray->Value){s x:ByteArray}(v:Value)(h:x≠s):GJ M s v x=M x:=if_neg h
theorem WG:Keyed be 9:=string_keyed IE
theorem XU(w:World):(zeroValue 24).run be w=.ok (U Y 0 0) w:=by kernel_rfl
theorem Da(w:World):eW (w.alloc (.map #[] 0)) w.heap.size 0 (λ_=>.slice Y 0 0):=⟨.map [],World.ownsMap_made w be 9 Nh,λs=>by simp[DataW.atKey]⟩
theorem eW.kept{w w':World}{b n:Nat}{M:ByteArray->Value}{row:Option Nat}(h:eW w b n M)(hg:w.grownBy w' row)(bu:Z b≠row):eW w' b n M:=by
 obtain⟨D,h1,h2⟩:=h;exact⟨D,h1.kept hg bu,h2⟩
theorem eW.lt{w:World}{b n:Nat}{M:ByteArray->Value}(h:eW w b n M):b<w.heap.size:=by
 obtain⟨D,h1,h2⟩:=h;exact h1.lt
theorem eW.below{w w':World}{b n:Nat}{M:ByteArray->Value}(h:eW w b n M)(hb:Below w.heap.size w w'):eW w' b n M:=by
 have hl:=h.lt;obtain⟨D,⟨es,clock,h1,h3⟩,h2⟩:=h;exact⟨D,⟨es,clock,(hb.block b hl).trans h1,h3⟩,h2⟩
theorem eW.look{w:World}{b n:Nat}{M:ByteArray->Value}(h:eW w b n M){s:ByteArray}(hs:s.size<=Ij):(J7 279 (.map (Z b)) (I s) false).run be w=.ok (M s) w:=by
 obtain⟨D,h1,h2⟩:=h;obtain⟨v,ps,ia,hv⟩:=h1.lookup WG Tryz.underlying279 (XU w) (show Nh (U Y 0 0)=Z (.held (U Y 0 0),[]) from rfl) (keyOf_string_mk IE hs);have e:v=M s:=by
  have h3:(DataW.held v:DataW Value)=D.atKey (kS s) (.held (U Y 0 0)):=by
   simp only[Nh,Jn,Prod.mk.injEq] at hv;exact hv.1
  rw[h2 s] at h3;injection h3
 rw[ia,e]
theorem eW.put{w:World}{b n:Nat}{M:ByteArray->Value}(h:eW w b n M)(hn:n<Ij){s:ByteArray}(hs:s.size<=Ij)(v:Value):∃w',(Instr.mapUpdate 279 (.map (Z b)) (I s) v).run be w=.ok () w'/\eW w' b (n+1) (GJ M s v)/\w.grownBy w' (Z b):=by
 obtain⟨D,h1,h2⟩:=h;obtain⟨w',ia,ho,hg⟩:=h1.update WG Tryz.underlying279 hn (keyOf_string_mk IE hs) (show Nh v=Z (.held v,[]) from rfl);refine⟨w',ia,⟨_,ho,λx=>?_⟩,hg⟩;by_cases e:x=s
 .subst e
  rw[kA];exact atKey_put_same h1.isMap (mg _) _ _
 .rw[fW M v e]
  exact(atKey_put_other (wZ e) _ _).trans (h2 x)
structure sj(B:Nat)(w:World)(mb n:Nat)(vn:Value)(M:ByteArray->Value)(ns:List ByteArray)(L:List Sv.aI):Prop where
 map:eW w mb n M
 nodes:dC B w vn ns
 rows:∀s,Sv.Own B w (M s) (jU L s)
 apart:∀s t,s≠t->(M s).ownBlock=Y\/(M s).ownBlock≠(M t).ownBlock
 off:∀s,(M s).ownBlock=Y\/(M s).ownBlock≠vn.ownBlock
 base:mb<B
theorem Ni(w:World):sj (w.heap.size+1) (w.alloc (.map #[] 0)) w.heap.size 0 (U Y 0 0) (λ_=>.slice Y 0 0) [] []:=
 ⟨Da w,Jp _ _ _ _,λ_=>Sv.bj _ _,λ_ _ _=>.inl rfl,λ_=>.inl rfl,Nat.lt_succ_self _⟩
theorem sj.below{B:Nat}{w w':World}{mb n:Nat}{vn:Value}{M:ByteArray->Value}{ns:List ByteArray}{L:List Sv.aI}(h:sj B w mb n vn M ns L)(hb:Below w.heap.size w w'):sj B w' mb n vn M ns L:=
 ⟨h.map.below hb,dC.below h.nodes hb,λs=>(h.rows s).below hb,h.apart,h.off,h.base⟩
theorem sj.more{B:Nat}{w:World}{mb n n':Nat}{vn:Value}{M:ByteArray->Value}{ns:List ByteArray}{L:List Sv.aI}(h:sj B w mb n vn M ns L)(hn:n<=n'):sj B w mb n' vn M ns L:=by
 obtain⟨⟨D,h1,h2⟩,h3,h4,h5,h6,h7⟩:=h;exact⟨⟨D,h1.mono hn,h2⟩,h3,h4,h5,h6,h7⟩
theorem kB{B mb:Nat}{w:World}{v:Value}{t:TypeId}{k n:Nat}{xs:List Value}(h:w.ownsRow B t k v n xs)(hb:mb<B):v.ownBlock=Y\/v.ownBlock≠Z mb:=by
 cases e:v.ownBlock with
 |none=>exact .inl rfl
 |some g=>exact .inr (λe2=>by have:=(I6 h g e).1;cases e2;omega)
theorem sj.node{B:Nat}{w w':World}{mb n:Nat}{vn v':Value}{M:ByteArray->Value}{ns:List ByteArray}{L:List Sv.aI}(h:sj B w mb n vn M ns L)(x:ByteArray)(r1:w'.ownsRow B 9 1 v' (ns.length+1) (ns.map I++[I x]))(r2:w.grownBy w' vn.ownBlock)(r4:v'.ownBlock=vn.ownBlock\/∃g,v'.ownBlock=Z g/\w.heap.size<=g):sj B w' mb n v' M (ns++[x]) L:=by
 refine⟨h.map.kept r2 (λe=>?_),oo r1,λs=>(h.rows s).kept r2 (h.off s),h.apart,λs=>?_,h.base⟩
 .rcases kB h.nodes h.base with h1|h1
  .rw[h1] at e;cases e
  .exact h1 e.symm
 .rcases r4 with e|⟨g,e,hg⟩
  .rw[e];exact h.off s
  .rw[e]
   cases e2:(M s).ownBlock with
   |none=>exact .inl rfl
   |some k=>exact .inr (λe3=>by have:=(I6 (h.rows s) k e2).2;cases e3;omega)
theorem wA(L:List Sv.aI)(x:Sv.aI):jU (L++[x]) x.node=jU L x.node++[x]:=by simp[jU,JP]
theorem tQ(L:List Sv.aI)(x:Sv.aI){s:ByteArray}(h:s≠x.node):jU (L++[x]) s=jU L s:=by
 have h2:decide (x.node=s)=false:=by simpa using Ne.symm h
 simp[jU,JP,h2]
theorem sj.put{B:Nat}{w w5:World}{mb n:Nat}{vn v':Value}{M:ByteArray->Value}{ns:List ByteArray}{L:List Sv.aI}(h:sj B w mb n vn M ns L)(x:Sv.aI)(hx:x.node.size<=Ij)(hn:n<Ij)(r1:Sv.Own B w5 v' (jU L x.node++[x]))(r2:w.grownBy w5 (M x.node).ownBlock)(r4:v'.ownBlock=(M x.node).ownBlock\/∃g,v'.ownBlock=Z g/\w.heap.size<=g) :
 ∃w6,(Instr.mapUpdate 279 (.map (Z mb)) (I x.node) v').run be w5=.ok () w6/\sj B w6 mb (n+1) vn (GJ M x.node v') ns (L++[x])/\w5.grownBy w6 (Z mb):=by
 have hm5:eW w5 mb n M:=h.map.kept r2 (λe=>by
  rcases kB (h.rows x.node) h.base with h1|h1
  .rw[h1] at e;cases e
  .exact h1 e.symm)
 obtain⟨w6,ia,hm6,vv⟩:=hm5.put hn hx v';have XV:∀(u:Value) (t:TypeId) (k m:Nat) (xs:List Value),w.ownsRow B t k u m xs->(u.ownBlock=Y\/u.ownBlock≠(M x.node).ownBlock)->(u.ownBlock=Y\/u.ownBlock≠v'.ownBlock):=λu t k m xs ho bu=>by
  rcases r4 with e|⟨g,e,hg⟩
  .rw[e];exact bu
  .rw[e]
   cases e2:u.ownBlock with
   |none=>exact .inl rfl
   |some j=>exact .inr (λe3=>by have:=(I6 ho j e2).2;cases e3;omega)
 have Ty:vn.ownBlock=Y\/vn.ownBlock≠(M x.node).ownBlock:=by
  cases e:vn.ownBlock with
  |none=>exact .inl rfl
  |some j=>
   refine .inr (λe2=>?_);rcases h.off x.node with h1|h1
   .rw[h1] at e2;cases e2
   .exact h1 (e2.symm.trans e.symm)
 refine⟨w6,ia,⟨hm6,?_,λs=>?_,λs t tr=>?_,λs=>?_,h.base⟩,vv⟩
 .exact(QN h.nodes r2 Ty).kept vv (kB (QN h.nodes r2 Ty) h.base)
 .by_cases e:s=x.node
  .subst e
   rw[kA,wA];exact QN r1 vv (kB r1 h.base)
  .rw[fW M v' e,tQ L x e]
   have h5:w5.ownsRow B 52 9 (M s) (jU L s).length (Sv.fl (jU L s)):=QN (h.rows s) r2 (h.apart s x.node e);exact QN h5 vv (kB h5 h.base)
 .by_cases e:s=x.node
  .subst e
   rw[kA,fW M v' (Ne.symm tr)];cases e2:v'.ownBlock with
   |none=>exact .inl rfl
   |some j=>
    refine .inr (λe3=>?_);rcases XV (M t) _ _ _ _ (h.rows t) (h.apart t x.node (Ne.symm tr)) with h1|h1
    .rw[h1] at e3;cases e3
    .exact h1 (e3.symm.trans e2.symm)
  .by_cases e2:t=x.node
   .subst e2
    rw[kA,fW M v' e];exact XV (M s) _ _ _ _ (h.rows s) (h.apart s x.node e)
   .rw[fW M v' e,fW M v' e2]
    exact h.apart s t tr
 .by_cases e:s=x.node
  .subst e
   rw[kA];cases e2:v'.ownBlock with
   |none=>exact .inl rfl
   |some j=>
    refine .inr (λe3=>?_);rcases XV vn _ _ _ _ h.nodes Ty with h1|h1
    .rw[h1] at e3;cases e3
    .exact h1 (e3.symm.trans e2.symm)
  .rw[fW M v' e]
   exact h.off s
theorem svI:(Tryz.prog.info? 52).map (λi=>(i.zero,i.size,i.bytes))=Z (Z (Im #[I ⟨#[]⟩,I ⟨#[]⟩,I ⟨#[]⟩,I ⟨#[]⟩,O J 0,O J 0,AI false,O J 0,AI false]),9,104):=by kernel_rfl
theorem GK{ms:List Mem}{L:List Sv.aI}{x:Sv.aI}(h:tL ms x.node=false):bQ ms (L++[x])=bQ ms L++[x]:=by simp[bQ,JP,h]
theorem GL{ms:List Mem}{L:List Sv.aI}{x:Sv.aI}(h:tL ms x.node=true):bQ ms (L++[x])=bQ ms L:=by simp[bQ,JP,h]
theorem tR{L:List Sv.aI}{k:Nat}(h:k<L.length):L.take (k+1)=L.take k++[L.getD k Sv.dm]:=by
 rw[Iw h];simp[Io,Ic h]
theorem Aw{L:List Sv.aI}{n:ByteArray}(h:(jU L n).length=0):n ∉ bP L:=λhm=>by
 obtain⟨s,hs,e⟩:=(om L n).1 hm
 have:s∈jU L n:=Ox.2 ⟨hs,by simpa using e⟩
 rw[IX h] at this;simp at this
theorem Nj{L:List Sv.aI}{n:ByteArray}(h:(jU L n).length≠0):n∈bP L:=by
 rw[om];obtain⟨s,hs⟩:=List.exists_mem_of_length_pos (Nat.pos_of_ne_zero h);have:=Ox.1 hs;exact⟨s,this.1,by simpa using this.2⟩
theorem GM{L:List Sv.aI}{x:Sv.aI}(h:(jU L x.node).length=0):bP (L++[x])=bP L++[x.node]:=by rw[jT,tO (Aw h)]
theorem GN{L:List Sv.aI}{x:Sv.aI}(h:(jU L x.node).length≠0):bP (L++[x])=bP L:=by rw[jT,yC (Nj h)]
theorem GO{SL:List ByteArray}{L:List Sv.aI}{j:Nat}(h:j<SL.length):gl (SL.take (j+1)) L=gl (SL.take j) L++jU L (SL.getD j Ih):=by
 unfold gl;rw[Iw h,List.flatMap_append];simp[Io,Ic h]
theorem Ax:∀(ns:List ByteArray) (L:List Sv.aI),(gl ns L).length<=ns.length*L.length
 |[],L=>by simp[gl]
 |n::r,L=>by
  have h1:=Ax r L;have h2:(jU L n).length<=L.length:=Ow _ _;have e:gl (n::r) L=jU L n++gl r L:=by simp[gl]
  rw[e,Ii,IY,Nat.add_mul];omega
theorem Tz{w:World}{a:Option Addr}{n c m:Nat}{ms:List Sv.aI}(h:Sv.Sl w (U a n c) ms):Sv.Sl w (U a (ms.take m).length c) (ms.take m):=by
 obtain⟨a',c',hv,hs,h⟩:=h;simp only[Value.slice.injEq] at hv;obtain⟨rfl,rfl,rfl⟩:=hv;refine⟨a,c,rfl,Sv.cB (λx hx=>Sv.cZ hs x (Jm hx)),?_⟩;rcases h with h|⟨b,off,ha,aL,hr⟩
 .exact .inl (by rw[h];simp)
 .refine .inr ⟨b,off,ha,aL,λj hj=>?_⟩
  have vy:j<ms.length:=by rw[Iu] at hj;omega
  have hj3:j<m:=by rw[Iu] at hj;omega
  have e:(ms.take m).getD j Sv.dm=ms.getD j Sv.dm:=by simp[Io,IF hj3]
  rw[e];exact hr j vy
theorem Nk{base:Nat}{w:World}{v:Value}{l:List ByteArray}(h:dC base w v l)(hs:∀s∈l,s.size<=Ij):zM w v l:=by
 have hz:∀j,(l.getD j Ih).size<=Ij:=λj=>by
  by_cases hj:j<l.length
  .rw[show l.getD j Ih=l[j] by simp[Io,Ic hj]];exact hs _ (IV hj)
  .rw[show l.getD j Ih=Ih by simp[Io,IP (by omega:l.length<=j)]];decide
 rcases h.2 with⟨hv,h0⟩|⟨g,c,cur,hv,_,hg,_⟩
 .exact⟨Y,0,by rw[hv,h0],hz,.inl (List.length_eq_zero_iff.1 h0)⟩
 .refine⟨Z ⟨g,0,Y⟩,c,hv,hz,.inr ⟨g,0,rfl,(Ia.1 hg).1,λj hj=>?_⟩⟩
  subst hv;rw[Nat.zero_add,O0 h j (by omega)];simp[Io,Ic hj]
theorem Nl{B:Nat}{w:World}{v:Value}{L:List Sv.aI}{x:Sv.aI}{lu:Nat}(h:lu=L.length)(ho:w.ownsRow B 52 9 v (lu+1) (Sv.fl L++x.cs)):Sv.Own B w v (L++[x]):=by subst h;exact Sv.eM ho
theorem qC(ms:List Mem)(L:List Sv.aI):(bQ ms L).length<=L.length:=Ow _ _
theorem Fc(L:List Sv.aI)(n:ByteArray):(jU L n).length<=L.length:=Ow _ _
theorem Ay(here:ByteArray)(ps pm pw:Option Addr)(ns cs nm cm nw cw:Nat)(px py pz ph pq:Int)(ms:List Mem)(found:List Sv.aI)(wh:List Wh.bC)(SL:List ByteArray)(vf:Value)(w:World)(hm:Sl w (U pm nm cm) ms)(hf:Sv.Sl w vf found)(Ma:Wh.Sl w (U pw nw cw) wh)(hn:nm<=1000)(oi:found.length<=40)(hso:∀(vn:Value) (W:World),Wh.Sl W (U pw nw cw) wh->zM W vn (bP (bQ ms found))->Calls be 243 #[Im #[O J px,O J py,O J pz,O J ph,O J pq],U pw nw cw,vn] W λe w'=>∃v' E,e=sh (Il #[v',O J E])/\zM w' v' SL/\Below W.heap.size W w')(hSL:∀x∈SL,x∈bP (bQ ms found))(amf:SL.length<=40) :
 Calls be 194 #[Im (eQ here (U ps ns cs) (U pm nm cm) px py pz ph pq (U pw nw cw)),vf] w λe w'=>∃v',e=sh v'/\Sv.Sl w' v' ((gl SL (bQ ms found)).take 20)/\Below w.heap.size w w':=by
 have TA:Hid _:=hso;have XW:Hid (∀x∈SL,x∈bP (bQ ms found)):=hSL;have HWH:Hid (Wh.Sl w (U pw nw cw) wh):=Ma;clear hso hSL Ma;obtain⟨i0,ei,bW,fs,eU⟩:=I0 svI;obtain⟨j0,Su,jz0,jzs,jzb⟩:=I0 Tryz.yz;have HM:Hid (Sl w (U pm nm cm) ms):=hm;obtain⟨pf,cf,rfl,hfs,hfa⟩:=hf;have HFS:Hid (∀j,(found.getD j Sv.dm).ok):=hfs;have HA:Hid (found=[]\/∃b off,pf=Z ⟨b,off,Y⟩/\b<w.heap.size/\Sv.Row w b off found):=hfa;clear hm hfs hfa;generalize hNN:found.length=n at *;have HN:Hid (found.length=n):=hNN;clear hNN;have zJ := @run_makeMap be;go_enter Tryz.func194,Tryz.ntmps194;go_wp2_with fail;obtain⟨W,hW⟩:∃W,W=(w.alloc (AT (eQ here (U ps ns cs) (U pm nm cm) px py pz ph pq (U pw nw cw)) 137)).alloc (.map #[] 0):=⟨_,rfl⟩;rw[<- hW];have wm:Hid (Below w.heap.size w W):=by rw[hW];exact((Ib _ _).alloc (By _) _).alloc (by simp) _
 have wB:Hid (W.heap[w.heap.size]?=Z (AT (eQ here (U ps ns cs) (U pm nm cm) px py pz ph pq (U pw nw cw)) 137 (0,0))):=by
  rw[hW,It _ _ _ (by simp)];exact Ie w _
 have GP:Hid (sj (w.heap.size+2) W (w.heap.size+1) 0 (U Y 0 0) (λ_=>.slice Y 0 0) [] []):=by
  have h:=Ni (w.alloc (AT (eQ here (U ps ns cs) (U pm nm cm) px py pz ph pq (U pw nw cw)) 137));rw[show(w.alloc (AT (eQ here (U ps ns cs) (U pm nm cm) px py pz ph pq (U pw nw cw)) 137)).heap.size=w.heap.size+1 by simp] at h;rw[hW];exact h
 clear hW;go_loopw [6,17] (λvn i wr=>∃(k:Nat) (M:ByteArray->Value),k<=n/\i=O J k/\Hid (sj (w.heap.size+2) wr (w.heap.size+1) k vn M (bP (bQ ms (found.take k))) (bQ ms (found.take k)))/\Hid (Below w.heap.size w wr)/\Hid (wr.heap[w.heap.size]?=Z (AT (eQ here (U ps ns cs) (U pm nm cm) px py pz ph pq (U pw nw cw)) 137 (0,0)))) (λ_ i _=>n-(intOf i).toNat)
 case atStart=>exact⟨0,_,II _,rfl,GP,wm,wB⟩
 case round=>
  obtain⟨k,M,hk,rfl,HG,HB,HK⟩:=hrel;have XX:=HB.out.size;have amj:=HG.out.map.lt;by_cases aL:k<n
  .obtain⟨b,off,lP,eY,hr⟩:∃b off,pf=Z ⟨b,off,Y⟩/\b<w.heap.size/\Sv.Row w b off found:=by
    rcases HA.out with h|h
    .have:=HN.out;rw[h] at this;simp at this;omega
    .exact h
   subst lP;have sO:k<found.length:=by rw[HN.out];exact aL
   obtain⟨c0,c1,c2,c3,c4,c5,c6,c7,c8⟩:=hr.later HB.out eY k sO;clear hr;have Sj:Hid (found.take (k+1)=found.take k++[found.getD k Sv.dm]):=tR sO;have so:(found.getD k Sv.dm).node.size<=Ij:=(HFS.out k).1;have hLn:(bQ ms (found.take k)).length<=40:=by have h1:=qC ms (found.take k);have h2:(found.take k).length<=k:=JV _ _;omega
   generalize found.getD k Sv.dm=x at *;obtain⟨nd,bF,name,tag,ad,po,lS,lT,lU⟩:=x;simp only at c0 c1 c2 c3 c4 c5 c6 c7 c8 so;have Az:w.heap.size<wr.heap.size:=by omega
   have hd:∀ob,(wr.alloc ob).heap[w.heap.size]?=Z (AT (eQ here (U ps ns cs) (U pm nm cm) px py pz ph pq (U pw nw cw)) 137 (0,0)):=λob=>by rw[It _ _ _ Az];exact HK.out
   have d0:∀ob,(wr.alloc ob).cell? ⟨w.heap.size,0,Y⟩=Z (I here):=λob=>af (hd ob) 0;have d1:∀ob,(wr.alloc ob).cell? ⟨w.heap.size,1,Y⟩=Z (U ps ns cs):=λob=>af (hd ob) 1;have d2:∀ob,(wr.alloc ob).cell? ⟨w.heap.size,2,Y⟩=Z (U pm nm cm):=λob=>af (hd ob) 2;have d3:∀ob,(wr.alloc ob).cell? ⟨w.heap.size,3,Y⟩=Z (O J px):=λob=>af (hd ob) 3;have d4:∀ob,(wr.alloc ob).cell? ⟨w.heap.size,4,Y⟩=Z (O J py):=λob=>af (hd ob) 4;have d5:∀ob,(wr.alloc ob).cell? ⟨w.heap.size,5,Y⟩=Z (O J pz):=λob=>af (hd ob) 5;have d6:∀ob,(wr.alloc ob).cell? ⟨w.heap.size,6,Y⟩=Z (O J ph):=λob=>af (hd ob) 6;have d7:∀ob,(wr.alloc ob).cell? ⟨w.heap.size,7,Y⟩=Z (O J pq):=λob=>af (hd ob) 7;have d8:∀ob,(wr.alloc ob).cell? ⟨w.heap.size,8,Y⟩=Z (U pw nw cw):=λob=>af (hd ob) 8;have HD:Hid (∀ob,(wr.alloc ob).heap[w.heap.size]?=Z (AT (eQ here (U ps ns cs) (U pm nm cm) px py pz ph pq (U pw nw cw)) 137 (0,0))):=hd;clear hd;go_wp2_with fail;have hba:Below wr.heap.size wr (wr.alloc (AT #[I nd,I bF,I name,I tag,O J ad,O J po,AI lS,O J lT,AI lU] 52)):=(Ib _ _).alloc (By _) _;refine(GD here ps pm pw ns cs nm cm nw cw px py pz ph pq ms nd _ (HM.out.below (HB.out.trans (hba.mono XX))) hn).mono ?_;rintro e w1 ⟨rfl,al⟩;have aR:Hid (Below w.heap.size w w1):=(HB.out.trans (hba.mono XX)).trans (al.mono (by simp;omega));have jo:Hid (sj (w.heap.size+2) w1 (w.heap.size+1) k u6 M (bP (bQ ms (found.take k))) (bQ ms (found.take k))):=(HG.out.below hba).below al;have nJ:Hid (w1.heap[w.heap.size]?=Z (AT (eQ here (U ps ns cs) (U pm nm cm) px py pz ph pq (U pw nw cw)) 137 (0,0))):=(al.block _ (by simp;omega)).trans (HD.out _);have eu:w1.heap[wr.heap.size]?=Z (AT #[I nd,I bF,I name,I tag,O J ad,O J po,AI lS,O J lT,AI lU] 52 (0,0)):=(al.block _ (by simp)).trans (Ie wr _);have q0:w1.cell? ⟨wr.heap.size,0,Y⟩=Z (I nd):=af eu 0;have q1:w1.cell? ⟨wr.heap.size,1,Y⟩=Z (I bF):=af eu 1;have q2:w1.cell? ⟨wr.heap.size,2,Y⟩=Z (I name):=af eu 2;have q3:w1.cell? ⟨wr.heap.size,3,Y⟩=Z (I tag):=af eu 3;have q4:w1.cell? ⟨wr.heap.size,4,Y⟩=Z (O J ad):=af eu 4;have q5:w1.cell? ⟨wr.heap.size,5,Y⟩=Z (O J po):=af eu 5;have q6:w1.cell? ⟨wr.heap.size,6,Y⟩=Z (AI lS):=af eu 6;have q7:w1.cell? ⟨wr.heap.size,7,Y⟩=Z (O J lT):=af eu 7;have q8:w1.cell? ⟨wr.heap.size,8,Y⟩=Z (AI lU):=af eu 8;have E9:Hid (∀g,(M nd).ownBlock=Z g->g<wr.heap.size):=λg h=>(I6 (HG.out.rows nd) g h).2;have agM:Hid (∀g,u6.ownBlock=Z g->g<wr.heap.size):=λg h=>(I6 HG.out.nodes g h).2;have gI:wr.heap.size+1<=w1.heap.size:=by have:=al.size;simpa using this
   have HGX:Hid (w1.heap[wr.heap.size]?=Z (AT #[I nd,I bF,I name,I tag,O J ad,O J po,AI lS,O J lT,AI lU] 52 (0,0))):=eu;clear al hba HG HK HD d0 d1 d2 d3 d4 d5 d6 d7 d8 eu;rcases hout:tL ms nd with _|_
   .have XY:Hid (bQ ms (found.take (k+1))=bQ ms (found.take k)++[⟨nd,bF,name,tag,ad,po,lS,lT,lU⟩]):=by rw[Sj.out];exact GK hout
    generalize bQ ms (found.take k)=L at *;obtain⟨pu,lu,cu,hu⟩:∃p l c,M nd=U p l c:=by
     rcases(jo.out.rows nd).2 with⟨h,h0⟩|⟨g,c,cur,h,_⟩
     .exact⟨Y,0,0,h⟩
     .exact⟨_,_,_,h⟩
    have HU:Hid (M nd=U pu lu cu):=hu;have WH:Hid (lu=(jU L nd).length):=by
     rcases(jo.out.rows nd).2 with⟨h,h0⟩|⟨g,c,cur,h,_⟩
     .rw[hu] at h;injection h with _ h2 _;show lu=_;omega
     .rw[hu] at h;injection h
    have HAV:Hid ((U pu lu cu).ownBlock≠Z wr.heap.size):=λh=>by
     have:=E9.out _ (by rw[HU.out];exact h);omega
    have hlk:(J7 279 (.map (Z (w.heap.size+1))) (I nd) false).run be w1=.ok (U pu lu cu) w1:=by rw[<- hu];exact jo.out.map.look so
    have vu:k<Ij:=by unfold Ij;omega
    have hLo:=Fc L nd;have hlm:lu<=40:=by have:=WH.out;omega
    have h63:lu+1<=Ij:=by unfold Ij;omega
    have Sq:(lu+1)*104<=140737488355328:=by omega
    clear hLo;clear hu;by_cases h0:lu=0
    .have sq:Hid (bP (L++[⟨nd,bF,name,tag,ad,po,lS,lT,lU⟩])=bP L++[nd]):=GM (by have:=WH.out;simp only;omega)
     have amm:((lu:Int)==0)=true:=by rw[h0];rfl
     clear h0;have hNS:(bP L).length<=40:=by have:=tP L;omega
     generalize bP L=NS at *;go_wp2_with (at_builtin;refine wpList_append_own_at _ rfl _ _ 111 rfl (w.heap.size+2) 9 j0 _ 1 16 Jt Su jz0 jzs jzb rfl (by omega) _ NS.length (NS.map I) rfl ?hown ⟨w1.heap.size,0,Y⟩ 1 1 [I nd] rfl rfl ?hnews (o8 [_]) ?h63 ?hbytes ?hbase ?_)
     case hown=>exact J9 jo.out.nodes _
     case hnews=>exact cell_one_new _ _ _
     case h63=>(unfold Ij;omega)
     case hbytes=>omega
     case hbase=>(simp;omega)
     intro vn2 w2 r1 r2 r3 r4;have iZ:w1.heap.size+1<=w2.heap.size:=by have h:=r2.size;simpa using h
     have oq:Hid (sj (w.heap.size+2) w2 (w.heap.size+1) k vn2 M (NS++[nd]) L):=(jo.out.below ((Ib _ _).alloc (By _) (AT #[I nd] 9))).node nd r1 r2 (by rcases r4 with h|h;exact .inl h;exact .inr ⟨_,h,by simp⟩);have bw:Hid (Below w.heap.size w w2):=(aR.out.alloc (by omega) _).grown r2 (by simp;omega) (λj hj=>by have:=(I6 jo.out.nodes j hj).1;omega);have j3:Hid (w2.heap[w.heap.size]?=Z (AT (eQ here (U ps ns cs) (U pm nm cm) px py pz ph pq (U pw nw cw)) 137 (0,0))):=by
      have h2:=r2.block w.heap.size (by simp;omega) (by intro e;have:=(I6 jo.out.nodes _ e.symm).1;omega);exact h2.trans ((It w1 _ _ (by omega)).trans nJ.out)
     have wC:w2.heap[wr.heap.size]?=Z (AT #[I nd,I bF,I name,I tag,O J ad,O J po,AI lS,O J lT,AI lU] 52 (0,0)):=by
      have h2:=r2.block wr.heap.size (by simp;omega) (by intro e;have:=agM.out _ e.symm;omega);exact h2.trans ((It w1 _ _ (by omega)).trans HGX.out)
     clear q0 q1 q2 q3 q4 q5 q6 q7 q8 r1 r2 r3 r4 hlk;have q0:w2.cell? ⟨wr.heap.size,0,Y⟩=Z (I nd):=af wC 0;have q1:w2.cell? ⟨wr.heap.size,1,Y⟩=Z (I bF):=af wC 1;have q2:w2.cell? ⟨wr.heap.size,2,Y⟩=Z (I name):=af wC 2;have q3:w2.cell? ⟨wr.heap.size,3,Y⟩=Z (I tag):=af wC 3;have q4:w2.cell? ⟨wr.heap.size,4,Y⟩=Z (O J ad):=af wC 4;have q5:w2.cell? ⟨wr.heap.size,5,Y⟩=Z (O J po):=af wC 5;have q6:w2.cell? ⟨wr.heap.size,6,Y⟩=Z (AI lS):=af wC 6;have q7:w2.cell? ⟨wr.heap.size,7,Y⟩=Z (O J lT):=af wC 7;have q8:w2.cell? ⟨wr.heap.size,8,Y⟩=Z (AI lU):=af wC 8;clear wC;go_wp2_with fail;have vz:(J7 279 (.map (Z (w.heap.size+1))) (I nd) false).run be w2.drew=.ok (U pu lu cu) w2.drew:=by have h:=eW.look (show eW w2.drew _ _ _ from oq.out.map) so;rw[HU.out] at h;exact h
     have eY:∀o,(J7 279 (.map (Z (w.heap.size+1))) (I nd) false).run be (w2.drew.alloc o)=.ok (U pu lu cu) (w2.drew.alloc o):=λo=>by have h:=eW.look (show eW (w2.drew.alloc o) _ _ _ from oq.out.map.below (((Ib _ _).drew).alloc (By _) o)) so;rw[HU.out] at h;exact h
     have fG:∀o,(J7 279 (.map (Z (w.heap.size+1))) (I nd) false).run be (w2.alloc o).drew=.ok (U pu lu cu) (w2.alloc o).drew:=eY;have TB:wr.heap.size<w2.heap.size:=IH w2 ⟨wr.heap.size,0,Y⟩ q0;have o9:w2.ownsRow (w.heap.size+2) 52 9 (U pu lu cu) lu (Sv.fl (jU L nd)):=by have h:w2.ownsRow (w.heap.size+2) 52 9 (M nd) (jU L nd).length (Sv.fl (jU L nd)):=oq.out.rows nd;rw[HU.out,<- WH.out] at h;exact h
     have Sr:(U pu lu cu).ownBlock≠Z wr.heap.size:=HAV.out;have hBW:w.heap.size+2<=w2.heap.size:=by omega
     have HGB:Hid (sj (w.heap.size+2) (w2.alloc (AT #[I nd,I bF,I name,I tag,O J ad,O J po,AI lS,O J lT,AI lU] 52)).drew (w.heap.size+1) k vn2 M (NS++[nd]) L):=oq.out.below ((Ib _ _).alloc (By _) _).drew;go_region_held3 (λw'=>w'.cell? ⟨wr.heap.size,0,Y⟩=Z (I nd)/\w'.cell? ⟨wr.heap.size,1,Y⟩=Z (I bF)/\w'.cell? ⟨wr.heap.size,2,Y⟩=Z (I name)/\w'.cell? ⟨wr.heap.size,3,Y⟩=Z (I tag)/\w'.cell? ⟨wr.heap.size,4,Y⟩=Z (O J ad)/\w'.cell? ⟨wr.heap.size,5,Y⟩=Z (O J po)/\w'.cell? ⟨wr.heap.size,6,Y⟩=Z (AI lS)/\w'.cell? ⟨wr.heap.size,7,Y⟩=Z (O J lT)/\w'.cell? ⟨wr.heap.size,8,Y⟩=Z (AI lU))
      (first
        |go_keep
        |(go_split_ands
          refine⟨?_,?_,?_,?_,?_,?_,?_,?_,?_⟩;all_goals (rw[bX.cell_far _ (by simp;omega) (Ne.symm Sr)];assumption))
        |(go_split_ands
          refine⟨?_,?_,?_,?_,?_,?_,?_,?_,?_⟩;all_goals (rw[vv.cell_far _ (by show wr.heap.size<_;have:=bX.size;simp at this;omega) (by intro e;have e2:wr.heap.size=w.heap.size+1:=J2 e;omega)];assumption)))
      ((refine QD _ (by rfl) _ _ _ (by rfl) (w.heap.size+2) 52 i0 _ 9 104 JK ei bW fs eU rfl (by omega) (U pu lu cu) lu (Sv.fl (jU L nd)) (by rfl) ((J9 o9 _).drew)
         ⟨w2.heap.size,0,Y⟩ 1 1 [I nd,I bF,I name,I tag,O J ad,O J po,AI lS,O J lT,AI lU] (by rfl) (by rfl) (Oo (cs:=#[I nd,I bF,I name,I tag,O J ad,O J po,AI lS,O J lT,AI lU]) (t:=52) (fr:=(0,0)) (Ie w2 _)) (by simp[Value.oneCell'])
         (by omega) h63 Sq (by simp;omega) (w2.heap.size+1) (by simp) ?_;intro gg cap w5 iI bX cA aL;obtain⟨w6,Nn,HG6,vv⟩:=sj.put HGB.out ⟨nd,bF,name,tag,ad,po,lS,lT,lU⟩ so vu (v':=U (Z ⟨gg,0,Y⟩) (lu+1) cap) (Nl WH.out iI) (by rw[HU.out];exact bX) (by rw[HU.out];rcases cA with h|h;exact .inl h.symm;exact .inr ⟨gg,rfl,by simp;omega⟩)))
     all_goals
      have WI:w2.heap.size+1<=w5.heap.size:=by have h:=bX.size;simpa using h
      have kX:Hid (Below w.heap.size w w6):=((bw.out.alloc (by omega) _).drew.grown bX (by simp;omega) (λj hj=>by have:=(I6 o9 j hj).1;omega)).grown vv (by omega) (λj hj=>by cases hj;omega);have vA:Hid (w6.heap[w.heap.size]?=Z (AT (eQ here (U ps ns cs) (U pm nm cm) px py pz ph pq (U pw nw cw)) 137 (0,0))):=by
       have h1:=vv.block w.heap.size (by omega) (by intro e;have e2:=J2 e;omega);have h2:=bX.block w.heap.size (by simp;omega) (by intro e;have:=(I6 o9 _ e.symm).1;omega);exact h1.trans (h2.trans ((It w2 _ _ (by omega)).trans j3.out))
      have HG7:Hid (sj (w.heap.size+2) w6 (w.heap.size+1) (k+1) vn2 (GJ M nd (U (Z ⟨gg,0,Y⟩) (lu+1) cap)) (NS++[nd]) (L++[⟨nd,bF,name,tag,ad,po,lS,lT,lU⟩])):=HG6;clear HG6 vv Nn bX iI cA aL o9 vz eY fG;go_wp2_with fail;exact⟨⟨k+1,_,by omega,by go_num,by rw[XY.out,sq.out];exact HG7,kX,vA⟩,by simp[intOf];omega⟩
    .have sq:Hid (bP (L++[⟨nd,bF,name,tag,ad,po,lS,lT,lU⟩])=bP L):=GN (by have:=WH.out;simp only;omega)
     have vz:((lu:Int)==0)=false:=by simpa using h0
     generalize bP L=NS at *;go_wp2_with fail;have vz:(J7 279 (.map (Z (w.heap.size+1))) (I nd) false).run be w1.drew=.ok (U pu lu cu) w1.drew:=by have h:=eW.look (show eW w1.drew _ _ _ from jo.out.map) so;rw[HU.out] at h;exact h
     have eY:∀o,(J7 279 (.map (Z (w.heap.size+1))) (I nd) false).run be (w1.drew.alloc o)=.ok (U pu lu cu) (w1.drew.alloc o):=λo=>by have h:=eW.look (show eW (w1.drew.alloc o) _ _ _ from jo.out.map.below (((Ib _ _).drew).alloc (By _) o)) so;rw[HU.out] at h;exact h
     have fG:∀o,(J7 279 (.map (Z (w.heap.size+1))) (I nd) false).run be (w1.alloc o).drew=.ok (U pu lu cu) (w1.alloc o).drew:=eY;have TB:wr.heap.size<w1.heap.size:=IH w1 ⟨wr.heap.size,0,Y⟩ q0;have o9:w1.ownsRow (w.heap.size+2) 52 9 (U pu lu cu) lu (Sv.fl (jU L nd)):=by have h:w1.ownsRow (w.heap.size+2) 52 9 (M nd) (jU L nd).length (Sv.fl (jU L nd)):=jo.out.rows nd;rw[HU.out,<- WH.out] at h;exact h
     have Sr:(U pu lu cu).ownBlock≠Z wr.heap.size:=HAV.out;have hBW:w.heap.size+2<=w1.heap.size:=by omega
     have HGB:Hid (sj (w.heap.size+2) (w1.alloc (AT #[I nd,I bF,I name,I tag,O J ad,O J po,AI lS,O J lT,AI lU] 52)).drew (w.heap.size+1) k u6 M NS L):=jo.out.below ((Ib _ _).alloc (By _) _).drew;go_region_held3 (λw'=>w'.cell? ⟨wr.heap.size,0,Y⟩=Z (I nd)/\w'.cell? ⟨wr.heap.size,1,Y⟩=Z (I bF)/\w'.cell? ⟨wr.heap.size,2,Y⟩=Z (I name)/\w'.cell? ⟨wr.heap.size,3,Y⟩=Z (I tag)/\w'.cell? ⟨wr.heap.size,4,Y⟩=Z (O J ad)/\w'.cell? ⟨wr.heap.size,5,Y⟩=Z (O J po)/\w'.cell? ⟨wr.heap.size,6,Y⟩=Z (AI lS)/\w'.cell? ⟨wr.heap.size,7,Y⟩=Z (O J lT)/\w'.cell? ⟨wr.heap.size,8,Y⟩=Z (AI lU))
      (first
        |go_keep
        |(go_split_ands
          refine⟨?_,?_,?_,?_,?_,?_,?_,?_,?_⟩;all_goals (rw[bX.cell_far _ (by simp;omega) (Ne.symm Sr)];assumption))
        |(go_split_ands
          refine⟨?_,?_,?_,?_,?_,?_,?_,?_,?_⟩;all_goals (rw[vv.cell_far _ (by show wr.heap.size<_;have:=bX.size;simp at this;omega) (by intro e;have e2:wr.heap.size=w.heap.size+1:=J2 e;omega)];assumption)))
      ((refine QD _ (by rfl) _ _ _ (by rfl) (w.heap.size+2) 52 i0 _ 9 104 JK ei bW fs eU rfl (by omega) (U pu lu cu) lu (Sv.fl (jU L nd)) (by rfl) ((J9 o9 _).drew)
         ⟨w1.heap.size,0,Y⟩ 1 1 [I nd,I bF,I name,I tag,O J ad,O J po,AI lS,O J lT,AI lU] (by rfl) (by rfl) (Oo (cs:=#[I nd,I bF,I name,I tag,O J ad,O J po,AI lS,O J lT,AI lU]) (t:=52) (fr:=(0,0)) (Ie w1 _)) (by simp[Value.oneCell'])
         (by omega) h63 Sq (by simp;omega) (w1.heap.size+1) (by simp) ?_;intro gg cap w5 iI bX cA aL;obtain⟨w6,Nn,HG6,vv⟩:=sj.put HGB.out ⟨nd,bF,name,tag,ad,po,lS,lT,lU⟩ so vu (v':=U (Z ⟨gg,0,Y⟩) (lu+1) cap) (Nl WH.out iI) (by rw[HU.out];exact bX) (by rw[HU.out];rcases cA with h|h;exact .inl h.symm;exact .inr ⟨gg,rfl,by simp;omega⟩)))
     all_goals
      have WI:w1.heap.size+1<=w5.heap.size:=by have h:=bX.size;simpa using h
      have kX:Hid (Below w.heap.size w w6):=((aR.out.alloc (by omega) _).drew.grown bX (by simp;omega) (λj hj=>by have:=(I6 o9 j hj).1;omega)).grown vv (by omega) (λj hj=>by cases hj;omega);have vA:Hid (w6.heap[w.heap.size]?=Z (AT (eQ here (U ps ns cs) (U pm nm cm) px py pz ph pq (U pw nw cw)) 137 (0,0))):=by
       have h1:=vv.block w.heap.size (by omega) (by intro e;have e2:=J2 e;omega);have h2:=bX.block w.heap.size (by simp;omega) (by intro e;have:=(I6 o9 _ e.symm).1;omega);exact h1.trans (h2.trans ((It w1 _ _ (by omega)).trans nJ.out))
      have HG7:Hid (sj (w.heap.size+2) w6 (w.heap.size+1) (k+1) u6 (GJ M nd (U (Z ⟨gg,0,Y⟩) (lu+1) cap)) NS (L++[⟨nd,bF,name,tag,ad,po,lS,lT,lU⟩])):=HG6;clear HG6 vv Nn bX iI cA aL o9 vz eY fG;go_wp2_with fail;exact⟨⟨k+1,_,by omega,by go_num,by rw[XY.out,sq.out];exact HG7,kX,vA⟩,by simp[intOf];omega⟩
   .have XY:Hid (bQ ms (found.take (k+1))=bQ ms (found.take k)):=by rw[Sj.out];exact GL hout
    go_wp2_with fail;go_roundw
    case rel=>exact⟨k+1,M,by omega,by go_num,by rw[XY.out];exact jo.out.more (by omega),aR,nJ⟩
    case measure=>simp[intOf];omega
  .have fM:k=n:=by omega
   have XY:Hid (bQ ms (found.take k)=bQ ms found):=by rw[IS (by rw[HN.out];omega)];rfl
   have so:∀s∈bP (bQ ms found),s.size<=Ij:=λs hs=>by
    obtain⟨x,hx,e⟩:=(om _ s).1 hs;have h1:=(Ox.1 hx).1;rw[<- e];exact(Sv.cZ HFS.out x h1).1
   have TC:Hid (zM wr u6 (bP (bQ ms found))):=by
    have h:=HG.out.nodes;rw[XY.out] at h;exact Nk h so
   have HGL:Hid (sj (w.heap.size+2) wr (w.heap.size+1) k u6 M (bP (bQ ms found)) (bQ ms found)):=by
    have h:=HG.out;rw[XY.out] at h;exact h
   have hLn:(bQ ms found).length<=40:=by have h1:=qC ms found;have h2:=HN.out;omega
   have agQ:Hid (∀x∈bQ ms found,x.ok):=λx hx=>Sv.cZ HFS.out x (Ox.1 hx).1;have acL:Hid _:=TA.out u6 wr (HWH.out.below HB.out) TC.out;have d3:wr.cell? ⟨w.heap.size,3,Y⟩=Z (O J px):=af HK.out 3;have d4:wr.cell? ⟨w.heap.size,4,Y⟩=Z (O J py):=af HK.out 4;have d5:wr.cell? ⟨w.heap.size,5,Y⟩=Z (O J pz):=af HK.out 5;have d6:wr.cell? ⟨w.heap.size,6,Y⟩=Z (O J ph):=af HK.out 6;have d7:wr.cell? ⟨w.heap.size,7,Y⟩=Z (O J pq):=af HK.out 7;have d8:wr.cell? ⟨w.heap.size,8,Y⟩=Z (U pw nw cw):=af HK.out 8;clear so HG TC TA HA;generalize hLL:bQ ms found=L at *;have Fe:Hid (bQ ms found=L):=hLL;clear hLL;go_wp2_with fail;refine Calls.mono acL.out ?_;rintro e w3 ⟨vs,E,rfl,ts,bf⟩;have Np:=bf.size;have da:Hid (Below w.heap.size w w3):=HB.out.trans (bf.mono XX);have Nq:Hid (sj (w.heap.size+2) w3 (w.heap.size+1) k u6 M (bP L) L):=HGL.out.below bf;obtain⟨pv,cv,rfl,hvz,Ff⟩:=ts;have HVA:Hid (SL=[]\/∃b off,pv=Z ⟨b,off,Y⟩/\b<w3.heap.size/\XT w3 b off SL):=Ff;have HVZ:Hid (∀j,(SL.getD j Ih).size<=Ij):=hvz;clear Ff hvz bf acL HGL d3 d4 d5 d6 d7 d8;generalize hMM:SL.length=m at *;have HMM:Hid (SL.length=m):=hMM;clear hMM;go_wp2_with fail;go_loopw [11,58] (λvl i wr=>∃j:Nat,j<=m/\i=O J j/\Hid (Sv.Own w3.heap.size wr vl (gl (SL.take j) L))/\Hid (Below w3.heap.size w3 wr)) (λ_ i _=>m-(intOf i).toNat)
   case atStart=>exact⟨0,II _,rfl,Sv.bj _ _,Ib _ _⟩
   case round=>
    obtain⟨j,hj,rfl,HO,gJ⟩:=hrel;have Db:=gJ.out.size;have hAL:(gl (SL.take j) L).length<=1600:=by
     have h1:=Ax (SL.take j) L;have h2:(SL.take j).length<=40:=by have:=JV j SL;omega
     have h3:(SL.take j).length*L.length<=40*40:=Nat.mul_le_mul h2 hLn;omega
    by_cases sf:j<m
    .obtain⟨bv,ov,lP,hlv,hrv⟩:∃b off,pv=Z ⟨b,off,Y⟩/\b<w3.heap.size/\XT w3 b off SL:=by
      rcases HVA.out with h|h
      .have:=HMM.out;rw[h] at this;simp at this;omega
      .exact h
     subst lP;have Sm:j<SL.length:=by rw[HMM.out];exact sf
     have cN:wr.cell? ⟨bv,ov+j,Y⟩=Z (I (SL.getD j Ih)):=(gJ.out.cell (p:=⟨bv,ov+j,Y⟩) hlv).trans (hrv j Sm);have acN:SL.getD j Ih∈bP L:=XW.out _ (by simp[Io,Ic Sm]);have bu:(jU L (SL.getD j Ih)).length≠0:=λh=>Aw h acN;have lG:Hid (gl (SL.take (j+1)) L=gl (SL.take j) L++jU L (SL.getD j Ih)):=GO Sm;have Mb:=HVZ.out j;clear acN hrv;generalize SL.getD j Ih=nd at *;have hon:=Fc L nd;obtain⟨g,cu,hu⟩:=Sv.eL (Nq.out.rows nd) 0 (by omega);have hr4:wr.ownsRow (w.heap.size+2) 52 9 (U (Z ⟨g,0,Y⟩) (jU L nd).length cu) (jU L nd).length (Sv.fl (jU L nd)):=by
      have h:Sv.Own _ wr (M nd) (jU L nd):=(Nq.out.rows nd).below gJ.out;rw[hu] at h;exact h
     have hlk:(J7 279 (.map (Z (w.heap.size+1))) (I nd) false).run be wr=.ok (U (Z ⟨g,0,Y⟩) (jU L nd).length cu) wr:=by rw[<- hu];exact(Nq.out.map.below gJ.out).look Mb
     have HNW:Hid (∀j u,(Sv.fl (jU L nd))[j]?=Z u->wr.cell? (Addr.add ⟨g,0,Y⟩ j)=Z u):=ml hr4;have GQ:Hid ((Sv.fl (jU L nd)).length=(jU L nd).length*9):=Sv.cT _;have HON:Hid (∀v' w',wr.ownsRow w3.heap.size 52 9 u11 (gl (SL.take j) L).length (Sv.fl (gl (SL.take j) L))->w'.ownsRow w3.heap.size 52 9 v' ((gl (SL.take j) L).length+(jU L nd).length) (Sv.fl (gl (SL.take j) L)++Sv.fl (jU L nd))->Sv.Own w3.heap.size w' v' (gl (SL.take (j+1)) L)):=λv' w' _ h=>by
      rw[lG.out];show w'.ownsRow _ _ _ _ (gl (SL.take j) L++jU L nd).length _;rw[Ii,Sv.cF];exact h
     clear hu hr4;generalize hof:jU L nd=NL at *;generalize gl (SL.take j) L=AL at *;generalize hlu:NL.length=lu at *;have WH:Hid (NL.length=lu):=hlu;clear hof hlu;go_wp2_with (at_builtin;refine I5 _ rfl _ _ 24 rfl w3.heap.size 52 i0 _ 9 104 JK ei bW fs eU rfl (by omega) _ AL.length (Sv.fl AL) rfl ?hown ⟨g,0,Y⟩ lu cu (Sv.fl NL) rfl ?hl ?hnews (Sv.fi _) ?h63 ?hbytes ?hbase ?_)
     case hown=>exact HO.out
     case hl=>exact GQ.out
     case hnews=>exact HNW.out
     case h63=>(unfold Ij;omega)
     case hbytes=>omega
     case hbase=>exact Db
     intro v' w4 r1 r2 r3;have nT:Hid (Sv.Own w3.heap.size w4 v' (gl (SL.take (j+1)) L)):=HON.out v' w4 HO.out r1;have jE:Hid (Below w3.heap.size w3 w4):=gJ.out.grown r2 Db (λk hk=>(HO.out.lt k hk).1);clear r1 r2 r3;go_wp2_with fail;go_roundw
     case rel=>exact⟨j+1,by omega,by go_num,nT,jE⟩
     case measure=>simp[intOf];omega
    .have HOA:Hid (Sv.Own w3.heap.size wr u11 (gl SL L)):=by
      have h:=HO.out;rw[IS (by rw[HMM.out];omega)] at h;exact h
     have amt:(gl SL L).length<=1600:=by rw[IS (by rw[HMM.out];omega)] at hAL;exact hAL
     have agT:Hid (∀x∈gl SL L,x.ok):=λx hx=>by
      obtain⟨n',_,h2⟩:=OT.1 hx;exact agQ.out x (Ox.1 h2).1
     have HBE:Hid (Below w.heap.size w wr):=da.out.trans (gJ.out.mono (by omega));clear HO hAL;have agU:Hid (Sv.Sl wr u11 (gl SL L)):=Sv.gd HOA.out agT.out;generalize hAA:gl SL L=AL at *;have HAA:Hid (gl SL L=AL):=hAA;clear hAA;rcases HOA.out.2 with⟨hv,h0⟩|⟨g,c,cur,hv,_,hg,eC,dj,_,aO⟩
     .subst hv
      have hAe:AL=[]:=IX h0;have hA0:AL.length=0:=h0;clear h0;go_wp2_with fail;go_ret;refine⟨_,rfl,?_,HBE.out⟩;rw[Fe.out,HAA.out,hAe];exact⟨Y,0,rfl,λj=>by simpa using Sv.nU,.inl rfl⟩
     .subst hv
      clear hg aO;go_wp2_with fail;go_ret;refine⟨_,rfl,?_,HBE.out⟩;rw[Fe.out,HAA.out];have h:=Tz (m:=20) agU.out;rw[show(AL.take 20).length=(min (AL.length:Int) 20).toNat by simp;omega] at h;exact h
end Go.Proofs.YtfidjlcdlakceaaGreatDoor
namespace Go.Proofs.YtfidjlcdlakceaaGreatDoor
open Go.RowKit
def dW(e:Int):Ending:=if e=0 then sh (Il #[]) else .panicked [{ v:=.iface 120 (Im #[O J e]),recovered:=false }]
theorem ot:dW 0=sh (Il #[]):=rfl
theorem eb{e:Int}(h:e≠0):dW e=.panicked [{ v:=.iface 120 (Im #[O J e]),recovered:=false }]:=if_neg h
theorem j4(s:ByteArray)(w:World)(hs:s.size<=Ij) :
 Calls be 71 #[I s] w λr w'=>r=dW (bT s)/\Below w.heap.size w w':=by
 by_cases h:bT s=0
 .rw[h]
  exact oS s w hs h
 .have HC:Hid (Calls be 25 #[I s] w λe w'=>e=sh (O J (bT s))/\Below w.heap.size w w'):=iM s w hs
  rw[eb h];generalize bT s=E at *;have h2:(E==0)=false:=by simpa using h
  go_enter Tryz.func71,Tryz.ntmps71;go_wp2_with fail;refine HC.out.mono ?_;rintro e w1 ⟨rfl,al⟩;have aR:Hid (Below w.heap.size w w1):=al;clear al;go_wp2_with fail;refine(dd _ _).mono ?_;rintro e w2 ⟨rfl,rfl⟩;exact⟨rfl,rfl,aR.out⟩
def gz(n:Int):Bool:=decide (n=1)||decide (n=16)||decide (n=33)
def jq(r:Rc.Rec):Rc.Rec:=if r.an=1 then⟨r.name,r.an,r.aK,r.addr,⟨#[]⟩,0,⟨#[]⟩⟩ else if r.an=16 then⟨r.name,r.an,r.aK,0,r.text,0,⟨#[]⟩⟩ else if r.an=33 then⟨r.name,r.an,r.aK,0,⟨#[]⟩,r.port,r.target⟩ else⟨r.name,r.an,r.aK,0,⟨#[]⟩,0,⟨#[]⟩⟩
abbrev mu(r:Rc.Rec):Value:=Im #[I r.name,O J r.an,O J r.aK,O J r.addr,I r.text,O J r.port,I r.target]
theorem wD(r:Rc.Rec)(w:World) :
 Calls be 123 #[mu r] w λe w'=>e=sh (mu (jq r))/\Below w.heap.size w w':=by
 obtain⟨name,an,aK,addr,text,port,target⟩:=r;unfold jq;simp only;by_cases h1:an=1
 .subst h1
  go_enter Tryz.func123,Tryz.ntmps123;go_wp2_with fail;refine Ix (v:=Im #[I name,O J 1,O J aK,O J addr,I ⟨#[]⟩,O J 0,I ⟨#[]⟩]) ?_ rfl ⟨rfl,?_⟩
  .simp[results,Tryz.results123,go_sem]
  .first|exact(((Ib _ _).alloc (By _) _).alloc (by simp) _).alloc (by simp;omega) _|exact((((Ib _ _).alloc (By _) _).alloc (by simp) _).alloc (by simp;omega) _).drew
 rw[if_neg h1];have e1:(an==1)=false:=by simpa using h1
 by_cases h2:an=16
 .subst h2
  clear e1;go_enter Tryz.func123,Tryz.ntmps123;go_wp2_with fail;refine Ix (v:=Im #[I name,O J 16,O J aK,O J 0,I text,O J 0,I ⟨#[]⟩]) ?_ rfl ⟨rfl,?_⟩
  .simp[results,Tryz.results123,go_sem]
  .first|exact(((Ib _ _).alloc (By _) _).alloc (by simp) _).alloc (by simp;omega) _|exact((((Ib _ _).alloc (By _) _).alloc (by simp) _).alloc (by simp;omega) _).drew
 rw[if_neg h2];have e2:(an==16)=false:=by simpa using h2
 by_cases h3:an=33
 .subst h3
  clear e1 e2;go_enter Tryz.func123,Tryz.ntmps123;go_wp2_with fail;go_region
  go_wp2_with fail;refine Ix (v:=Im #[I name,O J 33,O J aK,O J 0,I ⟨#[]⟩,O J port,I target]) ?_ rfl ⟨rfl,?_⟩
  .simp[results,Tryz.results123,go_sem]
  .first|exact(((Ib _ _).alloc (By _) _).alloc (by simp) _).alloc (by simp;omega) _|exact((((Ib _ _).alloc (By _) _).alloc (by simp) _).alloc (by simp;omega) _).drew
 rw[if_neg h3];have e3:(an==33)=false:=by simpa using h3
 .clear h1 h2 h3
  go_enter Tryz.func123,Tryz.ntmps123;go_wp2_with fail;refine Ix (v:=Im #[I name,O J an,O J aK,O J 0,I ⟨#[]⟩,O J 0,I ⟨#[]⟩]) ?_ rfl ⟨rfl,?_⟩
  .simp[results,Tryz.results123,go_sem]
  .first|exact(((Ib _ _).alloc (By _) _).alloc (by simp) _).alloc (by simp;omega) _|exact((((Ib _ _).alloc (By _) _).alloc (by simp) _).alloc (by simp;omega) _).drew
end Go.Proofs.YtfidjlcdlakceaaGreatDoor
namespace Go.Proofs.YtfidjlcdlakceaaGreatDoor
namespace Rc
open Go.RowKit
def kk(x y:Rec):Bool:=x.name.toList==y.name.toList&&(x.an==y.an&&(x.aK==y.aK&&(x.addr==y.addr&&(x.text.toList==y.text.toList&&(x.port==y.port&&(x.target.toList==y.target.toList))))))
theorem mZ(x y:Rec):kk x y=true↔x=y:=by
 obtain⟨x_name,x_typ,x_lasts,x_addr,x_text,x_port,x_target⟩:=x;obtain⟨y_name,y_typ,y_lasts,y_addr,y_text,y_port,y_target⟩:=y;simp only[kk,Bool.and_eq_true,beq_iff_eq,Rec.mk.injEq,Lib.toList_data];constructor
 .rintro⟨h0,h1,h2,h3,h4,h5,h6⟩;exact⟨jX h0,h1,h2,h3,jX h4,h5,jX h6⟩
 .rintro⟨h0,h1,h2,h3,h4,h5,h6⟩;exact⟨by rw[h0],h1,h2,h3,by rw[h4],h5,by rw[h6]⟩
theorem acP(m1 m2:Rec)(w:World):(Op.equalIn 10000 64 (Im #[I m1.name,O J m1.an,O J m1.aK,O J m1.addr,I m1.text,O J m1.port,I m1.target]) (Im #[I m2.name,O J m2.an,O J m2.aK,O J m2.addr,I m2.text,O J m2.port,I m2.target])).run be w=.ok (kk m1 m2) w:=by
 have u3:=Tryz.underlying3;have u9:=IE;have a3:=Tryz.isAgg3;have z3:=Tryz.sizeOf3;have a9:=Tryz.isAgg9;have z9:=Tryz.sizeOf9;have hS:Tryz.prog.underlying 64=Z (.struct (Tryz.prog.fieldsOf 64)):=by kernel_rfl
 have hp:Tryz.prog.stoodInHeld 64=false:=by kernel_rfl
 rw[show(10000:Nat)=9999+1 from rfl,run_equalIn_agg w 9999 64 _ _ hS hp];simp only[Program.fieldsOf,Tryz.underlying64];go_simp;unfold kk;by_cases h0:m1.name.toList=m2.name.toList
 case neg=>simp[h0]
 by_cases h1:m1.an=m2.an
 case neg=>simp[h0,h1]
 by_cases h2:m1.aK=m2.aK
 case neg=>simp[h0,h1,h2]
 by_cases h3:m1.addr=m2.addr
 case neg=>simp[h0,h1,h2,h3]
 by_cases h4:m1.text.toList=m2.text.toList
 case neg=>simp[h0,h1,h2,h3,h4]
 by_cases h5:m1.port=m2.port
 case neg=>simp[h0,h1,h2,h3,h4,h5]
 by_cases h6:m1.target.toList=m2.target.toList
 case neg=>simp[h0,h1,h2,h3,h4,h5,h6]
 simp[h0,h1,h2,h3,h4,h5,h6]
theorem eqE(m1 m2:Rec)(w:World):Sem.run be (binOp .eql 64 (Im #[I m1.name,O J m1.an,O J m1.aK,O J m1.addr,I m1.text,O J m1.port,I m1.target]) (Im #[I m2.name,O J m2.an,O J m2.aK,O J m2.addr,I m2.text,O J m2.port,I m2.target])) w=.ok (AI (kk m1 m2)) w:=by
 rw[run_eql_struct,acP];rfl
end Rc
end Go.Proofs.YtfidjlcdlakceaaGreatDoor
