import Derived.Test.YtfidhgjmifendaaGreatDoorng20
import Derived.Test.YtfidhgjmifendaaGreatDoorng30
set_option maxHeartbeats 12800000
set_option maxRecDepth 100000
open Go.Lib renaming decDigits→OF,itoa→Qt,indexByte→Jf,indexByte_ge→QT
open List renaming singleton_append→OU,append_assoc→Ip,mem_singleton→Jo,mem_append→JE,append_nil→JF,mem_cons_self→OQ,mem_cons→IQ,mem_cons_of_mem→Qa,length_cons→Iz,length_append→Ih,flatMap_cons→I1,flatMap_nil→Oo,nil_append→Qu,range→JC,length_singleton→M2,getD→Iq,getElem?_eq_getElem→Ie,getElem_mem→IG,getElem?_append_left→Js,getElem?_append_right→Jr,replicate→Jn
open Option renaming some→AI,bind_some→Jh,bind_eq_some_iff→Ix,none→be
open Int renaming toNat_natCast→JM
open Option.some renaming injEq→It
open Prod.mk renaming injEq→IN
open Go.Value renaming slice→J,string→Y,int→U,bool→Ia,pointer→If,tuple→Im,agg→Ik
open Nat renaming lt_of_lt_of_le→IJ,le_refl→Ic,le_trans→Ir,zero_add→ID,reduceAdd→Jg,zero_le→IH
open Go.IntKind renaming i64→O
open Go renaming maxLen→Io,bodyPost_ret→IL,heap_alloc_new→Ii,below_drewN→Jc
open Go.Obj renaming cells→By
open Go.Ending renaming returned→AT
open Go.Proofs.Tryz renaming prog→AS,underlying125→Jy,underlying3→IF
open Array renaming getElem?_eq_some_iff→BY
open Go.World renaming frozen?→Is,block_lt_of_cell?→Iy
open Go.Maps renaming size→JA
open Go.RowKit.Below renaming refl→Ib
namespace Go.Proofs.YtfidhgjmifendaaGreatDoor
open Go.RowKit
theorem xu{d:Nat}(h:d<10):(UInt8.ofNat (48+d)).toNat=48+d:=by
 rw[UInt8.toNat_ofNat'];omega
theorem SQ(u:Nat)(hu:u<18446744073709551616)(t:List UInt8):Lib.parseUint10 0 (OF u++t)=Lib.parseUint10 u t:=by
 induction u using Nat.strongRecOn generalizing t with
 |_ u ih=>
  rw[OF];split
  .rename_i h
   rw[OU,Lib.parseUint10,xu h,if_pos (by omega),if_neg (by omega),if_neg (by omega)];congr 1;omega
  .rename_i h
   rw[Ip,ih (u/10) (by omega) (by omega),OU,Lib.parseUint10,xu (by omega),if_pos (by omega),if_neg (by omega),if_neg (by omega)];congr 1;omega
theorem xv(u:Nat):∀c∈OF u,48<=c.toNat/\c.toNat<=57:=by
 induction u using Nat.strongRecOn with
 |_ u ih=>
  intro c hc;rw[OF] at hc;split at hc
  .rename_i h
   rw[Jo.1 hc,xu h];omega
  .rename_i h
   rcases JE.1 hc with hc|hc
   .exact ih (u/10) (by omega) c hc
   .rw[Jo.1 hc,xu (by omega)]
    omega
theorem KD(u:Nat):OF u≠[]:=by
 rw[OF];split<;>simp
theorem KE{u:Nat}(hu:u<18446744073709551616):Lib.parseMag (OF u)=.ok u:=by
 unfold Lib.parseMag;rw[if_neg (KD u)];have:=SQ u hu [];rw[JF] at this;rw[this];rfl
theorem EF{n:Int}(h:fR n):Lib.atoiAll (Qt n)=.ok n:=by
 unfold Qt;obtain⟨h1,h2⟩:=h;split
 .rw[Lib.atoiAll_minus,KE (by omega)]
  unfold Lib.signed;simp only;rw[if_neg (by omega)];congr 1;omega
 .cases hd:OF n.toNat with
  |nil=>exact absurd hd (KD _)
  |cons c r=>
   have hc:=xv n.toNat c (by rw[hd];exact OQ);rw[Lib.atoiAll_plain c r (by omega) (by omega),<- hd,KE (by omega)];unfold Lib.signless;simp only;rw[if_neg (by omega)];congr 1;omega
theorem EH(n:Int):∀c∈Qt n,c≠59:=by
 intro c hc;unfold Qt at hc;split at hc
 .rcases IQ.1 hc with rfl|hc
  .decide
  .have:=xv _ c hc
   intro e;subst e
   have:(59:UInt8).toNat=59:=rfl
   omega
 .have:=xv _ c hc
  intro e;subst e
  have:(59:UInt8).toNat=59:=rfl
  omega
theorem PW:∀(l r:List UInt8),(∀c∈l,c≠59)->Jf (l++59::r) 59=(l.length:Int)
 |[],r,_=>by
  unfold Jf;simp
 |x::l,r,h=>by
  have ih:=PW l r (λc hc=>h c (Qa _ hc));have hx:=h x OQ;rw[List.cons_append,Jf,if_neg (by simpa using hx),ih,if_neg (by simp)];rw[Iz];omega
theorem De(c:UInt8):∀{l:List UInt8} {i:Nat},Jf l c=(i:Int)->l=l.take i++c::l.drop (i+1)
 |[],i,h=>by unfold Jf at h;omega
 |x::r,i,h=>by
  unfold Jf at h;split at h
  .rename_i hx
   have hi:i=0:=by omega
   subst hi
   have:x=c:=by simpa using hx
   rw[this];simp
  .split at h
   .omega
   .rename_i h2
    have hg:=QT r c
    obtain⟨j,rfl⟩:∃j,i=j+1:=⟨i-1,by have:Jf r c ≠ -1:=by simpa using h2
                                    omega⟩
    have:=De c (l:=r) (i:=j) (by omega);rw[List.take_succ_cons,List.drop_succ_cons,List.cons_append,<- this]
theorem dM{n:Int}(h:fR n)(r:List UInt8):mB (fL n++r)=AI (n,r):=by
 unfold mB fL;rw[Ip,OU,PW _ r (EH n),if_neg (by omega),JM,List.take_left,EF h];simp only[if_true];congr 2;have e:Qt n++59::r=(Qt n++[59])++r:=by simp
 rw[e,List.drop_left' (by simp)]
theorem eN{l r:List UInt8}{n:Int}(h:mB l=AI (n,r)):l=fL n++r/\fR n:=by
 have nK:=(cZ h).1;unfold mB at h;split at h
 .simp at h
 rename_i aT;obtain⟨i,hi⟩:∃i:Nat,Jf l 59=(i:Int):=⟨(Jf l 59).toNat,by have:=QT l 59;omega⟩;rw[hi] at h;simp only[JM] at h;split at h
 case h_2=>simp at h
 rename_i m hm;split at h
 case isFalse=>simp at h
 rename_i hd;simp only[It,IN] at h;obtain⟨rfl,rfl⟩:=h;refine⟨?_,nK⟩;unfold fL;rw[hd,Ip,OU];exact De 59 hi
theorem kj{s:ByteArray}(h:s.size<=140737488355328)(r:List UInt8):yK (mf s++r)=AI (s,r):=by
 unfold yK mf;rw[Ip,dM ⟨by omega,by omega⟩];simp only;have hl:s.data.toList.length=s.size:=rfl;rw[if_pos ⟨by omega,by rw[Ih];omega⟩,JM,List.take_left' hl,List.drop_left' hl];rfl
theorem mR{l r:List UInt8}{s:ByteArray}(h:yK l=AI (s,r)):l=mf s++r:=by
 unfold yK at h;split at h
 case h_2=>simp at h
 rename_i n r' hn;split at h
 case isFalse=>simp at h
 rename_i hk;simp only[It,IN] at h;obtain⟨rfl,rfl⟩:=h;have e:=(eN hn).1;unfold mf;rw[jx,List.length_take,Nat.min_eq_left (by omega),kJ,Ip,List.take_append_drop,show((n.toNat:Nat):Int)=n by omega];exact e
theorem sj(y:Bool)(r:List UInt8):DT (wJ y++r)=AI (y,r):=by
 unfold DT wJ;rw[dM (by split<;>exact⟨by omega,by omega⟩)];cases y<;>simp
theorem xx{l r:List UInt8}{y:Bool}(h:DT l=AI (y,r)):l=wJ y++r:=by
 unfold DT at h;split at h
 case h_2=>simp at h
 rename_i n r' hn;have e:=(eN hn).1;unfold wJ;split at h
 .rename_i h0
  simp only[It,IN] at h;obtain⟨rfl,rfl⟩:=h;rw[e,h0];simp
 .split at h
  .rename_i h1
   simp only[It,IN] at h;obtain⟨rfl,rfl⟩:=h;rw[e,h1];simp
  .simp at h
theorem KF{x y z u v:Int}(h1:fR x)(h2:fR y)(h3:fR z)(h4:fR u)(h5:fR v)(r:List UInt8):LP ([x,y,z,u,v].flatMap fL++r)=AI ((x,y,z,u,v),r):=by
 unfold LP;simp only[I1,Oo,JF,Ip,dM h1,dM h2,dM h3,dM h4,dM h5,Jh]
theorem SR{l r:List UInt8}{x y z u v:Int}(h:LP l=AI ((x,y,z,u,v),r)):l=[x,y,z,u,v].flatMap fL++r:=by
 unfold LP at h;simp only[Ix,It,IN] at h;obtain⟨⟨x',r1⟩,n1,⟨y',r2⟩,n2,⟨z',r3⟩,n3,⟨u',r4⟩,n4,⟨v',r5⟩,n5,⟨rfl,rfl,rfl,rfl,rfl⟩,rfl⟩:=h;simp only at n1 n2 n3 n4 n5 ⊢;have e1:=(eN n1).1;have e2:=(eN n2).1;have e3:=(eN n3).1;have e4:=(eN n4).1;have e5:=(eN n5).1;simp only[I1,Oo,JF,Ip];rw[e1,e2,e3,e4,e5]
theorem lN{m:Mem}(h:j9 m)(r:List UInt8):eo (gI m++r)=AI (m,r):=by
 obtain⟨h0,h1,h2,h3⟩:=h;unfold eo gI;simp only[I1,Oo,JF,Ip,kj (s:=m.name) (by omega),dM h1,dM h2,dM h3,sj m.server,Jh]
theorem lO{l r:List UInt8}{m:Mem}(h:eo l=AI (m,r)):l=gI m++r:=by
 unfold eo at h;simp only[Ix,It,IN] at h;obtain⟨⟨x0,r1⟩,n0,⟨x1,r2⟩,n1,⟨x2,r3⟩,n2,⟨x3,r4⟩,n3,⟨x4,r5⟩,n4,rfl,rfl⟩:=h;simp only at n0 n1 n2 n3 n4 ⊢;have e0:=mR n0;have e1:=(eN n1).1;have e2:=(eN n2).1;have e3:=(eN n3).1;have e4:=xx n4;unfold gI;simp only[I1,Oo,JF,Ip];rw[e0,e1,e2,e3,e4]
theorem gU:∀(E:List Mem),(∀m∈E,j9 m)->∀(D:List Mem) (r:List UInt8),dB E.length (E.flatMap gI++r) D=AI (D++E,r)
 |[],_,D,r=>by simp[dB]
 |m::E,h,D,r=>by
  rw[I1,Ip,Iz,dB,lN (h m OQ),Jh];simp only;rw[gU E (λx hx=>h x (Qa _ hx)) (D++[m]) r,Ip];rfl
theorem gV:∀{n:Nat} {l r:List UInt8} {D E:List Mem},dB n l D=AI (E,r)->∃X:List Mem,X.length=n/\E=D++X/\l=X.flatMap gI++r
 |0,l,r,D,E,h=>by
  simp only[dB,It,IN] at h;obtain⟨rfl,rfl⟩:=h;exact⟨[],rfl,by simp,by simp⟩
 |n+1,l,r,D,E,h=>by
  obtain⟨⟨m,r'⟩,he,h⟩:=Ix.1 h;obtain⟨X,h1,h2,h3⟩:=gV h;exact⟨m::X,by simp[h1],by rw[h2];simp,by rw[lO he,show r'=_ from h3,I1,Ip]⟩
theorem iC{E:List Mem}(hl:E.length<=1000)(h:∀m∈E,j9 m)(r:List UInt8):bT (fL E.length++E.flatMap gI++r)=AI (E,r):=by
 unfold bT;rw[Ip,dM ⟨by omega,by omega⟩,Jh];simp only;rw[if_pos (by omega),JM,gU E h [] r];rfl
theorem iD{l r:List UInt8}{E:List Mem}(h:bT l=AI (E,r)):l=fL E.length++E.flatMap gI++r:=by
 unfold bT at h;rw[Ix] at h;obtain⟨⟨n,r1⟩,h1,h2⟩:=h;simp only at h2;split at h2
 .rename_i h0
  obtain⟨X,g1,g2,g3⟩:=gV h2;rw[Qu] at g2;subst g2;rw[(eN h1).1,g3,g1,show((n.toNat:Nat):Int)=n by omega,Ip]
 .cases h2
namespace Sv
theorem lN{m:aW}(h:j9 m)(r:List UInt8):eo (gI m++r)=AI (m,r):=by
 obtain⟨h0,h1,h2,h3,h4,h5,h6⟩:=h;unfold eo gI;simp only[I1,Oo,JF,Ip,kj (s:=m.node) (by omega),kj (s:=m.bq) (by omega),kj (s:=m.name) (by omega),kj (s:=m.tag) (by omega),dM h4,dM h5,sj m.aj,dM h6,sj m.gone,Jh]
theorem lO{l r:List UInt8}{m:aW}(h:eo l=AI (m,r)):l=gI m++r:=by
 unfold eo at h;simp only[Ix,It,IN] at h;obtain⟨⟨x0,r1⟩,n0,⟨x1,r2⟩,n1,⟨x2,r3⟩,n2,⟨x3,r4⟩,n3,⟨x4,r5⟩,n4,⟨x5,r6⟩,n5,⟨x6,r7⟩,n6,⟨x7,r8⟩,n7,⟨x8,r9⟩,n8,rfl,rfl⟩:=h;simp only at n0 n1 n2 n3 n4 n5 n6 n7 n8 ⊢;have e0:=mR n0;have e1:=mR n1;have e2:=mR n2;have e3:=mR n3;have e4:=(eN n4).1;have e5:=(eN n5).1;have e6:=xx n6;have e7:=(eN n7).1;have e8:=xx n8;unfold gI;simp only[I1,Oo,JF,Ip];rw[e0,e1,e2,e3,e4,e5,e6,e7,e8]
theorem gU:∀(E:List aW),(∀m∈E,j9 m)->∀(D:List aW) (r:List UInt8),dB E.length (E.flatMap gI++r) D=AI (D++E,r)
 |[],_,D,r=>by simp[dB]
 |m::E,h,D,r=>by
  rw[I1,Ip,Iz,dB,lN (h m OQ),Jh];simp only;rw[gU E (λx hx=>h x (Qa _ hx)) (D++[m]) r,Ip];rfl
theorem gV:∀{n:Nat} {l r:List UInt8} {D E:List aW},dB n l D=AI (E,r)->∃X:List aW,X.length=n/\E=D++X/\l=X.flatMap gI++r
 |0,l,r,D,E,h=>by
  simp only[dB,It,IN] at h;obtain⟨rfl,rfl⟩:=h;exact⟨[],rfl,by simp,by simp⟩
 |n+1,l,r,D,E,h=>by
  obtain⟨⟨m,r'⟩,he,h⟩:=Ix.1 h;obtain⟨X,h1,h2,h3⟩:=gV h;exact⟨m::X,by simp[h1],by rw[h2];simp,by rw[lO he,show r'=_ from h3,I1,Ip]⟩
theorem iC{E:List aW}(hl:E.length<=1000)(h:∀m∈E,j9 m)(r:List UInt8):bT (fL E.length++E.flatMap gI++r)=AI (E,r):=by
 unfold bT;rw[Ip,dM ⟨by omega,by omega⟩,Jh];simp only;rw[if_pos (by omega),JM,gU E h [] r];rfl
theorem iD{l r:List UInt8}{E:List aW}(h:bT l=AI (E,r)):l=fL E.length++E.flatMap gI++r:=by
 unfold bT at h;rw[Ix] at h;obtain⟨⟨n,r1⟩,h1,h2⟩:=h;simp only at h2;split at h2
 .rename_i h0
  obtain⟨X,g1,g2,g3⟩:=gV h2;rw[Qu] at g2;subst g2;rw[(eN h1).1,g3,g1,show((n.toNat:Nat):Int)=n by omega,Ip]
 .cases h2
end Sv
namespace Gw
theorem lN{m:bC}(h:j9 m)(r:List UInt8):eo (gI m++r)=AI (m,r):=by
 obtain⟨h0,h1,h2⟩:=h;unfold eo gI;simp only[I1,Oo,JF,Ip,kj (s:=m.aC) (by omega),dM h1,dM h2,Jh]
theorem lO{l r:List UInt8}{m:bC}(h:eo l=AI (m,r)):l=gI m++r:=by
 unfold eo at h;simp only[Ix,It,IN] at h;obtain⟨⟨x0,r1⟩,n0,⟨x1,r2⟩,n1,⟨x2,r3⟩,n2,rfl,rfl⟩:=h;simp only at n0 n1 n2 ⊢;have e0:=mR n0;have e1:=(eN n1).1;have e2:=(eN n2).1;unfold gI;simp only[I1,Oo,JF,Ip];rw[e0,e1,e2]
theorem gU:∀(E:List bC),(∀m∈E,j9 m)->∀(D:List bC) (r:List UInt8),dB E.length (E.flatMap gI++r) D=AI (D++E,r)
 |[],_,D,r=>by simp[dB]
 |m::E,h,D,r=>by
  rw[I1,Ip,Iz,dB,lN (h m OQ),Jh];simp only;rw[gU E (λx hx=>h x (Qa _ hx)) (D++[m]) r,Ip];rfl
theorem gV:∀{n:Nat} {l r:List UInt8} {D E:List bC},dB n l D=AI (E,r)->∃X:List bC,X.length=n/\E=D++X/\l=X.flatMap gI++r
 |0,l,r,D,E,h=>by
  simp only[dB,It,IN] at h;obtain⟨rfl,rfl⟩:=h;exact⟨[],rfl,by simp,by simp⟩
 |n+1,l,r,D,E,h=>by
  obtain⟨⟨m,r'⟩,he,h⟩:=Ix.1 h;obtain⟨X,h1,h2,h3⟩:=gV h;exact⟨m::X,by simp[h1],by rw[h2];simp,by rw[lO he,show r'=_ from h3,I1,Ip]⟩
theorem iC{E:List bC}(hl:E.length<=1000)(h:∀m∈E,j9 m)(r:List UInt8):bT (fL E.length++E.flatMap gI++r)=AI (E,r):=by
 unfold bT;rw[Ip,dM ⟨by omega,by omega⟩,Jh];simp only;rw[if_pos (by omega),JM,gU E h [] r];rfl
theorem iD{l r:List UInt8}{E:List bC}(h:bT l=AI (E,r)):l=fL E.length++E.flatMap gI++r:=by
 unfold bT at h;rw[Ix] at h;obtain⟨⟨n,r1⟩,h1,h2⟩:=h;simp only at h2;split at h2
 .rename_i h0
  obtain⟨X,g1,g2,g3⟩:=gV h2;rw[Qu] at g2;subst g2;rw[(eN h1).1,g3,g1,show((n.toNat:Nat):Int)=n by omega,Ip]
 .cases h2
end Gw
namespace Wh
theorem lN{m:bJ}(h:j9 m)(r:List UInt8):eo (gI m++r)=AI (m,r):=by
 obtain⟨h0,h1,h2,h3,h4,h5⟩:=h;unfold eo gI;rw[Ip,kj (s:=m.node) (by omega),Jh];simp only;rw[KF h1 h2 h3 h4 h5,Jh]
theorem lO{l r:List UInt8}{m:bJ}(h:eo l=AI (m,r)):l=gI m++r:=by
 unfold eo at h;simp only[Ix,It,IN] at h;obtain⟨⟨x0,r1⟩,n0,⟨⟨x1,x2,x3,x4,x5⟩,r2⟩,n1,rfl,rfl⟩:=h;simp only at n0 n1 ⊢;unfold gI;rw[mR n0,SR n1,Ip]
theorem gU:∀(E:List bJ),(∀m∈E,j9 m)->∀(D:List bJ) (r:List UInt8),dB E.length (E.flatMap gI++r) D=AI (D++E,r)
 |[],_,D,r=>by simp[dB]
 |m::E,h,D,r=>by
  rw[I1,Ip,Iz,dB,lN (h m OQ),Jh];simp only;rw[gU E (λx hx=>h x (Qa _ hx)) (D++[m]) r,Ip];rfl
theorem gV:∀{n:Nat} {l r:List UInt8} {D E:List bJ},dB n l D=AI (E,r)->∃X:List bJ,X.length=n/\E=D++X/\l=X.flatMap gI++r
 |0,l,r,D,E,h=>by
  simp only[dB,It,IN] at h;obtain⟨rfl,rfl⟩:=h;exact⟨[],rfl,by simp,by simp⟩
 |n+1,l,r,D,E,h=>by
  obtain⟨⟨m,r'⟩,he,h⟩:=Ix.1 h;obtain⟨X,h1,h2,h3⟩:=gV h;exact⟨m::X,by simp[h1],by rw[h2];simp,by rw[lO he,show r'=_ from h3,I1,Ip]⟩
theorem iC{E:List bJ}(hl:E.length<=1000)(h:∀m∈E,j9 m)(r:List UInt8):bT (fL E.length++E.flatMap gI++r)=AI (E,r):=by
 unfold bT;rw[Ip,dM ⟨by omega,by omega⟩,Jh];simp only;rw[if_pos (by omega),JM,gU E h [] r];rfl
theorem iD{l r:List UInt8}{E:List bJ}(h:bT l=AI (E,r)):l=fL E.length++E.flatMap gI++r:=by
 unfold bT at h;rw[Ix] at h;obtain⟨⟨n,r1⟩,h1,h2⟩:=h;simp only at h2;split at h2
 .rename_i h0
  obtain⟨X,g1,g2,g3⟩:=gV h2;rw[Qu] at g2;subst g2;rw[(eN h1).1,g3,g1,show((n.toNat:Nat):Int)=n by omega,Ip]
 .cases h2
end Wh
theorem SS{p:Pk}(h:p.Vw)(r:List UInt8):uM (p.B++r)=AI (p,r):=by
 unfold uM Pk.B;rw[Ip,Ip,Ip,Ip,Ip,kj (by have:=h.cT;omega),Jh];simp only;rw[sj,Jh];simp only;rw[iC (by have:=h.ms.1;omega) h.ms.2,Jh];simp only;rw[Sv.iC (by have:=h.sv.1;omega) h.sv.2,Jh];simp only;rw[Gw.iC (by have:=h.gw.1;omega) h.gw.2,Jh];simp only;rw[Wh.iC (by have:=h.wh.1;omega) h.wh.2,Jh]
theorem Df{l r:List UInt8}{p:Pk}(h:uM l=AI (p,r)):l=p.B++r:=by
 unfold uM at h;simp only[Ix,It,IN] at h;obtain⟨⟨x0,r1⟩,n0,⟨x1,r2⟩,n1,⟨x2,r3⟩,n2,⟨x3,r4⟩,n3,⟨x4,r5⟩,n4,⟨x5,r6⟩,n5,rfl,rfl⟩:=h;simp only at n0 n1 n2 n3 n4 n5 ⊢;have e0:=mR n0;have e1:=xx n1;have e2:=iD n2;have e3:=Sv.iD n3;have e4:=Gw.iD n4;have e5:=Wh.iD n5;unfold Pk.B;simp only[Ip] at e2 e3 e4 e5 ⊢;rw[e0,e1,e2,e3,e4,e5]
def BM(l:List UInt8):Option Pk:=(uM l).bind λa=>if a.2=[]/\a.1.e=0 then AI a.1 else be
theorem kT{l:List UInt8}{p:Pk}:BM l=AI p↔l=p.B/\p.e=0:=by
 unfold BM;rw[Ix];constructor
 .rintro⟨⟨q,r⟩,h1,h2⟩
  simp only at h2;split at h2
  .rename_i h3
   simp only[It] at h2;subst h2;have:=Df h1;rw[h3.1,JF] at this;exact⟨this,h3.2⟩
  .cases h2
 .rintro⟨rfl,he⟩
  have:=SS (nX he) [];rw[JF] at this;exact⟨(p,[]),this,by simp[he]⟩
structure Nt where
 ns:List Nd
 ls:List Lt.fg
def ek:Nd:=⟨⟨#[]⟩,⟨#[]⟩,[],[],[],[],⟨0,0,0,0,0⟩,[]⟩
def iE(ns:List Nd):Prop:=∀i j,i<j->j<ns.length->(ns.getD i ek).name≠(ns.getD j ek).name
def apN(ns:List Nd):Bool:=(JC ns.length).all λj=>(JC j).all λi=>decide ((ns.getD i ek).name≠(ns.getD j ek).name)
theorem xy(ns:List Nd):apN ns=true↔iE ns:=by
 simp only[apN,List.all_eq_true,List.mem_range,decide_eq_true_eq];exact⟨λh i j jG hj=>h j hj i jG,λh j hj i jG=>h i j jG hj⟩
def nH{α:Type}(f:α->Int):List α->Int
 |[]=>0
 |x::r=>if f x=0 then nH f r else f x
theorem xz{α:Type}(f:α->Int)(d:α):∀(l:List α) (k:Nat),k<l.length->(∀j,j<k->f (l.getD j d)=0)->f (l.getD k d)≠0->nH f l=f (l.getD k d)
 |[],k,hk,_,_=>by simp at hk
 |x::r,0,_,_,aT=>by
  have:f x≠0:=by simpa using aT
  simp only[nH];rw[if_neg this];simp
 |x::r,k+1,hk,hz,aT=>by
  have h0:f x=0:=by simpa using hz 0 (by omega)
  simp only[nH];rw[if_pos h0,xz f d r k (by simpa using hk) (λj hj=>by simpa using hz (j+1) (by omega)) (by simpa using aT)];simp
theorem nu{α:Type}(f:α->Int)(d:α):∀(l:List α),(∀j,j<l.length->f (l.getD j d)=0)->nH f l=0
 |[],_=>rfl
 |x::r,h=>by
  have h0:f x=0:=by simpa using h 0 (by simp)
  simp only[nH];rw[if_pos h0];exact nu f d r (λj hj=>by simpa using h (j+1) (by simpa using hj))
theorem tI{α:Type}(f:α->Int):∀{l:List α},nH f l=0->∀x∈l,f x=0
 |y::r,h,x,hx=>by
  simp only[nH] at h;split at h
  .rename_i h0
   rcases IQ.1 hx with rfl|hx
   .exact h0
   .exact tI f h x hx
  .rename_i h0;exact absurd h h0
def uW(k:Nat)(l:Lt.fg):Int:=if within l.to 0 ((k:Int)-1)=true then(if(BM l.text.data.toList).isSome=true then 0 else 1) else 3
def j8(ns:List Nd):Int:=if nH Nd.e ns=0 then(if apN ns=true then 0 else 6) else nH Nd.e ns
def Nt.e(t:Nt):Int:=if 6<t.ns.length\/20<t.ls.length then 2 else if j8 t.ns=0 then nH (uW t.ns.length) t.ls else j8 t.ns
theorem SU{ns:List Nd}{k:Nat}(hk:k<ns.length)(hz:∀j,j<k->(ns.getD j ek).e=0)(aT:(ns.getD k ek).e≠0):j8 ns=(ns.getD k ek).e:=by
 have h:=xz Nd.e ek ns k hk hz aT;rw[j8,h,if_neg aT]
theorem BN{ns:List Nd}(hz:∀j,j<ns.length->(ns.getD j ek).e=0)(hd:¬ iE ns):j8 ns=6:=by
 rw[j8,if_pos (nu _ ek ns hz),if_neg (λh=>hd ((xy ns).1 h))]
theorem Dg{ns:List Nd}(hz:∀j,j<ns.length->(ns.getD j ek).e=0)(hd:iE ns):j8 ns=0:=by
 rw[j8,if_pos (nu _ ek ns hz),if_pos ((xy ns).2 hd)]
def uX(w:World)(b off:Nat)(ns:List Nd):Prop:=∀j,j<ns.length->∃vm vr vs vg vw,eT w (ns.getD j ek) vm vr vs vg vw/\∀i,i<12->w.cell? ⟨b,off+j*12+i,be⟩=(dw (ns.getD j ek) vm vr vs vg vw)[i]?
theorem uX.below{w w':World}{b off:Nat}{ns:List Nd}(h:uX w b off ns)(hb:Below w.heap.size w w')(hl:b<w.heap.size):uX w' b off ns:=λj hj=>by
 obtain⟨vm,vr,vs,vg,vw,h1,h2⟩:=h j hj;exact⟨vm,vr,vs,vg,vw,h1.below hb,λi hi=>(hb.cell (p:=⟨b,off+j*12+i,be⟩) hl).trans (h2 i hi)⟩
def zy(w:World)(v:Value)(ns:List Nd):Prop:=∃(a:Option Addr) (cap:Nat),v=J a ns.length cap/\(ns=[]\/∃b off,a=AI ⟨b,off,be⟩/\b<w.heap.size/\uX w b off ns)
theorem zy.below{w w':World}{v:Value}{ns:List Nd}(h:zy w v ns)(hb:Below w.heap.size w w'):zy w' v ns:=by
 obtain⟨a,cap,rfl,h⟩:=h;refine⟨a,cap,rfl,?_⟩;rcases h with h|⟨b,off,rfl,hl,hr⟩
 .exact .inl h
 .exact .inr ⟨b,off,rfl,IJ hl hb.size,hr.below hb hl⟩
theorem uX.at{w:World}{b off k:Nat}{ns:List Nd}(h:uX w b off ns)(hk:k<ns.length):∃vm vr vs vg vw,eT w (ns.getD k ek) vm vr vs vg vw/\w.cell? ⟨b,off+k*12,be⟩=AI (Y (ns.getD k ek).name)/\w.cell? ⟨b,off+k*12+1,be⟩=AI (Y (ns.getD k ek).aC)/\w.cell? ⟨b,off+k*12+2,be⟩=AI vm/\w.cell? ⟨b,off+k*12+3,be⟩=AI vr/\w.cell? ⟨b,off+k*12+4,be⟩=AI vs/\w.cell? ⟨b,off+k*12+5,be⟩=AI vg/\w.cell? ⟨b,off+k*12+6,be⟩=AI (U O (ns.getD k ek).p.x)/\w.cell? ⟨b,off+k*12+7,be⟩=AI (U O (ns.getD k ek).p.y)/\w.cell? ⟨b,off+k*12+8,be⟩=AI (U O (ns.getD k ek).p.z)/\w.cell? ⟨b,off+k*12+9,be⟩=AI (U O (ns.getD k ek).p.h)/\w.cell? ⟨b,off+k*12+10,be⟩=AI (U O (ns.getD k ek).p.s)/\w.cell? ⟨b,off+k*12+11,be⟩=AI vw:=by
 obtain⟨vm,vr,vs,vg,vw,h1,h2⟩:=h k hk;exact⟨vm,vr,vs,vg,vw,h1,h2 0 (by omega),h2 1 (by omega),h2 2 (by omega),h2 3 (by omega),h2 4 (by omega),h2 5 (by omega),h2 6 (by omega),h2 7 (by omega),h2 8 (by omega),h2 9 (by omega),h2 10 (by omega),h2 11 (by omega)⟩
theorem Rp.aD{g:Nat}{w w1:World}(h:Rp g w w1)(L:List Value):Rp g w (aD g L 0 w1):=by
 obtain⟨h1,h2,h3⟩:=ql g L 0 w1;exact⟨h1.trans h.os,h2.trans h.tape,h3.trans h.output,by rw[ff];exact h.size,λk hk hg=>(aV hg L 0 w1).trans (h.block k hk hg)⟩
theorem nv{base n k:Nat}{T:TypeId}{w:World}{v:Value}{xs:List Value}(h:w.ownsRow base T k v n xs):Roomy v:=by
 rcases h.2 with⟨rfl,h0⟩|⟨g,c,cur,rfl,ey,hg,fK,dN,bZ,bf⟩
 .unfold Roomy;exact Ic _
 .unfold Roomy;exact fK
theorem gz.mono{a b:Nat}{w:World}{p:Pk}{vm vs vg vw:Value}(h:gz b w p vm vs vg vw)(D0:a<=b):gz a w p vm vs vg vw:=⟨h.ms.mono D0,h.sv.mono D0,h.gw.mono D0,h.wh.mono D0⟩
theorem M6{l r:List UInt8}{p:Pk}(h:uM l=AI (p,r))(hl:l.length<=16777216):p.cT.size<=Io/\(∀m∈p.ms,m.name.size<=Io)/\(∀m∈p.sv,m.node.size<=Io/\m.bq.size<=Io/\m.name.size<=Io/\m.tag.size<=Io)/\(∀m∈p.gw,m.aC.size<=Io)/\(∀m∈p.wh,m.node.size<=Io):=by
 unfold uM at h;simp only[Ix,It,IN] at h;obtain⟨⟨x0,r1⟩,n0,⟨x1,r2⟩,n1,⟨x2,r3⟩,n2,⟨x3,r4⟩,n3,⟨x4,r5⟩,n4,⟨x5,r6⟩,n5,rfl,rfl⟩:=h;simp only at n0 n1 n2 n3 n4 n5 ⊢;have e0:=kz n0;have e1:=qj n1;have e2:=eA n2 (by omega);have e3:=Sv.eA n3 (by omega);have e4:=Gw.eA n4 (by omega);have e5:=Wh.eA n5 (by omega);refine⟨by unfold Io;omega,e2.1,e3.1,e4.1,e5.1⟩
theorem Wq{l r:List UInt8}{p:Pk}(h:uM l=AI (p,r))(hl:l.length<=16777216):p.sv.length+p.gw.length+p.wh.length<=16777216:=by
 have e:=Df h;have hS:∀m:Sv.aW,1<=(Sv.gI m).length:=λm=>by unfold Sv.gI mf fL;simp only[Ih,M2];omega
 have hG:∀m:Gw.bC,1<=(Gw.gI m).length:=λm=>by unfold Gw.gI mf fL;simp only[Ih,M2];omega
 have hW:∀m:Wh.bJ,1<=(Wh.gI m).length:=λm=>by unfold Wh.gI mf fL;simp only[Ih,M2];omega
 have fl:∀{α:Type} (f:α->List UInt8),(∀m,1<=(f m).length)->∀L:List α,L.length<=(L.flatMap f).length:=λf hf L=>by
  induction L with
  |nil=>simp
  |cons m L ih=>rw[I1,Ih,Iz];have:=hf m;omega
 have h1:=fl Sv.gI hS p.sv;have h2:=fl Gw.gI hG p.gw;have h3:=fl Wh.gI hW p.wh;have h4:=congrArg List.length e;unfold Pk.B at h4;simp only[Ih] at h4;omega
theorem M7{B cs cp:Nat}{l:List UInt8}{p:Pk}{w:World}(hV:Rv B w)(hs:l.length<=16777216)(bZ:w.cell? ⟨cs,0,be⟩=AI (Y (fF l)))(BO:w.heap[cp]?=AI (By #[Y ⟨#[]⟩,Ia false,J be 0 0,J be 0 0,J be 0 0,J be 0 0] 53 (0,0)))(hn:BM l=AI p) :
 Calls AS 116 #[If (AI ⟨cs,0,be⟩),If (AI ⟨cp,0,be⟩)] w λe w'=>e=AT (Im #[])/\Rp cp w w'/\∃vm vs vg vw,w'.heap[cp]?=AI (By #[Y p.cT,Ia p.whole,vm,vs,vg,vw] 53 (0,0))/\gz (w.heap.size+1) w' p vm vs vg vw:=by
 unfold BM at hn;obtain⟨⟨p',r⟩,hn,he⟩:=Ix.1 hn;simp only at he;split at he
 case isFalse=>cases he
 rename_i hre;obtain⟨rfl,Db⟩:=hre;cases he
 have aee:=(BY.1 BO).1;obtain⟨W0,bA,bM,eE,dF⟩:=bV w #[Y (fF l)] 160;have R0:kb w.heap.size l W0:=⟨ae dF 0,by simp[Is,dF],by omega⟩;have Wr:Hid (Calls _ _ _ _ _):=Hj (hV.below (bM.mono hV.le)) hV.le R0 hs hn;have rG:Hid _:=eE;have EI:Hid (∀W,Rp w.heap.size W0 W->W.heap[cp]?=AI (By #[Y ⟨#[]⟩,Ia false,J be 0 0,J be 0 0,J be 0 0,J be 0 0] 53 (0,0))):=λW hW=>hW.kA (by omega) ((bM.block cp aee).trans BO);have HIN:Hid _:=M6 hn hs;have HIL:Hid _:=Wq hn hs;have BP:Hid (Rp cp w W0):=Rp.b9 bM (Ic _);have HPE:Hid _:=Db;clear hV hs BO bM dF eE R0 hn Db;go_enter Tryz.func116,Tryz.ntmps116;go_wp2_with fail;rw[<- bA];clear bA bZ;refine Wr.out.mono ?_;rintro e w1 ⟨vm,vs,vg,vw,rfl,hr,ho,hp⟩;obtain⟨LM,hY⟩:=HIN.out;have hlen:=HIL.out;obtain⟨a2,l2,c2,rfl⟩:=bn ho.ms;obtain⟨a3,l3,c3,rfl⟩:=bn ho.sv;obtain⟨a4,l4,c4,rfl⟩:=bn ho.gw;obtain⟨a5,l5,c5,rfl⟩:=bn ho.wh;have jj:=EI.out w1 hr;have lg:Rp cp w w1:=⟨hr.os.trans BP.out.os,hr.tape.trans BP.out.tape,hr.output.trans BP.out.output,Ir BP.out.size hr.size,λk hk hkc=>(hr.block k (IJ hk BP.out.size) (by omega)).trans (BP.out.block k hk hkc)⟩;obtain⟨w2,sJ⟩:∃w2,w2=aD cp [Y p.cT,Ia p.whole,J a2 l2 c2,J a3 l3 c3,J a4 l4 c4,J a5 l5 c5] 0 w1:=⟨_,rfl⟩;have jd:w2.heap[cp]?=AI (By #[Y p.cT,Ia p.whole,J a2 l2 c2,J a3 l3 c3,J a4 l4 c4,J a5 l5 c5] 53 (0,0)):=by rw[sJ];exact oX jj _ _ _ _ _ _
 have qU:Rp cp w w2:=by rw[sJ];exact lg.aD _
 have rZ:∀b,b≠cp->w2.heap[b]?=w1.heap[b]?:=λb hb=>by rw[sJ];exact aV hb _ _ _
 have ny:w2.heap.size=w1.heap.size:=by rw[sJ];exact ff _ _ _ _
 have fB:gz (w.heap.size+1) w2 p (J a2 l2 c2) (J a3 l3 c3) (J a4 l4 c4) (J a5 l5 c5):=(ho.mono (by have:=rG.out;omega)).fa (λb hb _=>rZ b (by omega));have his:jY w2 p (J a2 l2 c2) (J a3 l3 c3) (J a4 l4 c4) (J a5 l5 c5):=⟨bF fB.ms hY.1,Sv.bF fB.sv hY.2.1,Gw.bF fB.gw hY.2.2.1,Wh.bF fB.wh hY.2.2.2,LM,nv fB.ms⟩;have mr:Hid (Calls AS 62 #[Ik #[Y p.cT,Ia p.whole,J a2 l2 c2,J a3 l3 c3,J a4 l4 c4,J a5 l5 c5]] w2 λe w'=>e=AT (U O 0)/\Below w2.heap.size w2 w'):=(lA p _ _ _ _ w2 his (.inr (by omega))).mono (λe w' h=>⟨by rw[<- HPE.out];exact h.1,h.2⟩);have d2:w2.cell? ⟨w.heap.size,0,be⟩=AI (Y ⟨#[]⟩):=(cell_of (rZ _ (by omega)) 0).trans hp.c0;have AZ:Hid (Rp cp w w2):=qU;have oQ:Hid _:=jd;have gZ:Hid (gz (w.heap.size+1) w2 p (J a2 l2 c2) (J a3 l3 c3) (J a4 l4 c4) (J a5 l5 c5)):=fB;have aef:Hid (∀w3,Below w2.heap.size w2 w3->Rp cp w w3/\∃vm vs vg vw,w3.heap[cp]?=AI (By #[Y p.cT,Ia p.whole,vm,vs,vg,vw] 53 (0,0))/\gz (w.heap.size+1) w3 p vm vs vg vw):=λw3 hb=>
  ⟨AZ.out.trans (Rp.b9 hb (Ic _)),_,_,_,_,(hb.block cp (BY.1 oQ.out).1).trans oQ.out,gZ.out.fa (λb _ aN=>hb.block b aN)⟩
 obtain⟨b0,b1,b2,b3,b4,b5⟩:=jk jj;have z:=lF jj;obtain⟨f0,f1,f2,f3,f4,f5⟩:=jk jd;clear hr hp ho Wr HIN HIL EI rG LM hY hlen jj lg jd qU rZ ny fB his AZ oQ gZ BP HPE;go_upto_region 2 with fail
 simp only[aD,ID,Jg] at sJ;rw[<- sJ];clear sJ b0 b1 b2 b3 b4 b5 z;go_wp2_with fail;refine mr.out.mono ?_;rintro e w3 ⟨rfl,bU⟩;have Dc:Hid _:=aef.out w3 bU;clear bU;go_wp2_with fail;refine(ji _ _).mono ?_;rintro e w4 ⟨rfl,Mw⟩;subst Mw;go_wp2_with fail;simp only[bodyPost,results,Tryz.results116];exact⟨trivial,Im #[],by simp,rfl,Dc.out⟩
def tJ(w:World)(p:Pk)(e:Ending)(w':World):Prop:=
 Below w.heap.size w w'/\∃vm vs vg vw,e=AT (Im #[Ik #[Y p.cT,Ia p.whole,vm,vs,vg,vw],U O 0])/\gz w.heap.size w' p vm vs vg vw
theorem Dh{B:Nat}{l:List UInt8}{p:Pk}{w:World}(hV:Rv B w)(hs:l.length<=16777216)(hn:BM l=AI p) :
 aF 69 #[Y (fF l)] w (tJ w p):=by
 have hmf:∀(fn:Fn) (first cap:Array Value) (w:World),(Instr.makeFunc fn first cap).run AS w=.ok (.func fn first cap) w:=λ_ _ _ _=>rfl;have ef:=enters_of Tryz.func116 (by kernel_rfl) rfl;obtain⟨W0,bA,bM,eE,k0,k1,k2⟩:=n9 w #[Y (fF l)] #[Y ⟨#[]⟩,Ia false,J be 0 0,J be 0 0,J be 0 0,J be 0 0] #[Y ⟨#[]⟩,Ia false,J be 0 0,J be 0 0,J be 0 0,J be 0 0] 9 53 53;obtain⟨W1,cQ,aB,uP,ke⟩:=bV W0 #[U O 0] 31;have fh:W1.heap.size=w.heap.size+4:=by omega
 have PX:Hid (aF _ _ _ _):=
  M7 (hV.below ((bM.mono hV.le).trans (aB.mono (by have:=hV.le;omega)))) hs ((aB.cell (p:=⟨w.heap.size,0,be⟩) (by show w.heap.size<W0.heap.size;omega)).trans (ae k0 0)) ((aB.block _ (by omega)).trans k2) hn
 have HE:Hid (∀w',Rp (w.heap.size+2) W1 w'->w'.cell? ⟨W0.heap.size,0,be⟩=AI (U O 0)/\w'.frozen? ⟨W0.heap.size,0,be⟩=false/\W0.heap.size<w'.heap.size):=λw' hr=>by
  have e:=hr.kA (k:=W0.heap.size) (by omega) ke;exact⟨ae e 0,by simp[Is,e],(BY.1 e).1⟩
 have mc:Hid (∀w',Rp (w.heap.size+2) W1 w'->w'.heap[w.heap.size+1]?=AI (By #[Y ⟨#[]⟩,Ia false,J be 0 0,J be 0 0,J be 0 0,J be 0 0] 53 (0,0))):=λw' hr=>hr.kA (by omega) ((aB.block _ (by omega)).trans k1);have jA:Hid (∀w',Rp (w.heap.size+2) W1 w'->Below w.heap.size w w'):=λw' hr=>(bM.trans (aB.mono (by omega))).trans (hr.below (B:=w.heap.size) (by omega) (by omega));have rG:Hid _:=eE;have tr:Hid _:=fh;clear hV hs bM aB k0 k1 k2 ke eE fh uP hn;have fb:Hid (aF 119 #[.func (.func 116) #[] #[If (AI ⟨w.heap.size,0,be⟩),If (AI ⟨w.heap.size+2,0,be⟩)]] W0 λr w'=>r=AT (U O 0)/\∃w1,(Rp (w.heap.size+2) W1 w1/\∃vm vs vg vw,w1.heap[w.heap.size+2]?=AI (By #[Y p.cT,Ia p.whole,vm,vs,vg,vw] 53 (0,0))/\gz (W1.heap.size+1) w1 p vm vs vg vw)/\W0.heap.size<w1.heap.size/\w'=w1.setCell ⟨W0.heap.size,0,be⟩ (U O 0)):=
  AG _ _ W0 (λw1=>Rp (w.heap.size+2) W1 w1/\∃vm vs vg vw,w1.heap[w.heap.size+2]?=AI (By #[Y p.cT,Ia p.whole,vm,vs,vg,vw] 53 (0,0))/\gz (W1.heap.size+1) w1 p vm vs vg vw) ef (by
   rw[<- cQ];refine PX.out.mono ?_;rintro e w' ⟨rfl,hr,vm,vs,vg,vw,h1,h2⟩;exact⟨rfl,⟨hr,vm,vs,vg,vw,h1,h2⟩,HE.out w' hr⟩)
 clear PX cQ;go_enter Tryz.func69,Tryz.ntmps69;go_wp2_with fail;rw[<- bA];clear bA;refine fb.out.mono ?_;rintro e w2 ⟨rfl,w1,⟨hr,vm,vs,vg,vw,h1,h2⟩,aR,sJ⟩;obtain⟨a2,l2,c2,rfl⟩:=bn h2.ms;obtain⟨a3,l3,c3,rfl⟩:=bn h2.sv;obtain⟨a4,l4,c4,rfl⟩:=bn h2.gw;obtain⟨a5,l5,c5,rfl⟩:=bn h2.wh;have et:∀k,k≠W0.heap.size->w2.heap[k]?=w1.heap[k]?:=λk hk=>by rw[sJ];exact Below.heap_setCell _ _ _ k hk
 have jj:=(et _ (by have:=rG.out;omega)).trans (mc.out w1 hr);have jd:=(et _ (by have:=rG.out;omega)).trans h1;have fB:=h2.fa (λb hb _=>et b (by have:=rG.out;have:=tr.out;omega));have Ay:Below w.heap.size w w2:=by
  have h:=jA.out w1 hr;rw[sJ];exact h.setCell (p:=⟨W0.heap.size,0,be⟩) (by have:=rG.out;show w.heap.size<=W0.heap.size;omega) _
 obtain⟨w3,PY⟩:∃w3,w3=aD (w.heap.size+1) [Y p.cT,Ia p.whole,J a2 l2 c2,J a3 l3 c3,J a4 l4 c4,J a5 l5 c5] 0 w2:=⟨_,rfl⟩;have jw:w3.heap[w.heap.size+1]?=AI (By #[Y p.cT,Ia p.whole,J a2 l2 c2,J a3 l3 c3,J a4 l4 c4,J a5 l5 c5] 53 (0,0)):=by rw[PY];exact oX jj _ _ _ _ _ _
 have dY:Hid (gz w.heap.size w3 p (J a2 l2 c2) (J a3 l3 c3) (J a4 l4 c4) (J a5 l5 c5)):=(fB.fa (λb hb _=>by rw[PY];exact aV (by have:=tr.out;omega) _ _ _)).mono (by have:=tr.out;omega);have cF:Hid (Below w.heap.size w w3):=by rw[PY];exact aP (by omega) _ _ Ay
 obtain⟨b0,b1,b2,b3,b4,b5⟩:=jk jj;have z:=lF jj;obtain⟨f0,f1,f2,f3,f4,f5⟩:=jk jd;obtain⟨g0,g1,g2,g3,g4,g5⟩:=jk jw;have gO:Hid (tJ w p (AT (Im #[Ik #[Y p.cT,Ia p.whole,J a2 l2 c2,J a3 l3 c3,J a4 l4 c4,J a5 l5 c5],U O 0])) w3):=⟨cF.out,_,_,_,_,rfl,dY.out⟩;clear dY cF fb jj jd jw fB Ay et h1 h2 hr aR sJ HE mc jA rG tr;generalize hRS:tJ w p=Z at *;clear hRS;generalize p.cT=q0 at *;generalize p.whole=q1 at *;go_wp2_with fail;simp only[aD,ID,Jg] at PY;rw[<- PY];clear PY b0 b1 b2 b3 b4 b5 z f0 f1 f2 f3 f4 f5;exact IL (v:=Im #[Ik #[Y q0,Ia q1,J a2 l2 c2,J a3 l3 c3,J a4 l4 c4,J a5 l5 c5],U O 0]) (by simp[results,Tryz.results69,go_sem,g0,g1,g2,g3,g4,g5]) rfl gO.out
end Go.Proofs.YtfidhgjmifendaaGreatDoor
namespace Go.Proofs.YtfidhgjmifendaaGreatDoor
open Go.RowKit Go.WideMaps Go.Maps
def mS(ns:List Nd):List ByteArray:=ns.map (·.name)
theorem iF(ns:List Nd)(k:Nat):(mS ns).getD k ByteArray.empty=(ns.getD k ek).name:=by
 by_cases h:k<ns.length
 .simp[mS,Iq,Ie h]
 .simp[mS,Iq,List.getElem?_eq_none (by omega:ns.length<=k),ek];rfl
theorem M8{D:DataW Unit}{ns:List Nd}(h:CB D (mS ns) ns.length)(hd:¬ iE ns):JA D<ns.length:=by
 rw[h.size];apply lu;apply Classical.byContradiction;intro hx;apply hd;intro i j jG hj e;exact hx ⟨i,j,jG,hj,by rw[iF,iF];exact e⟩
theorem M9{D:DataW Unit}{ns:List Nd}(h:CB D (mS ns) ns.length)(hd:iE ns):JA D=ns.length:=by
 rw[h.size];exact lv _ _ (λi j jG hj=>by rw[iF,iF];exact hd i j jG hj)
theorem tK(ns:List Nd)(g:Nat)(v:Value)(w:World)(hv:zy w v ns)(hg:w.cell? ⟨g,0,be⟩=AI v)(BQ:ns.length<=6) :
 Calls AS 42 #[If (AI ⟨g,0,be⟩)] w λe w'=>e=AT (U O (j8 ns))/\Below w.heap.size w w':=by
 have di:=Iy w _ hg;obtain⟨pa,ca,rfl,ha⟩:=hv;have HA:Hid _:=ha;clear ha;generalize hN:ns.length=n at *;have HN:Hid _:=hN;clear hN;have Ml:=iW;go_enter Tryz.func42,Tryz.ntmps42;go_wp2;go_loopw [20] (λi wr=>∃k:Nat,k<=n/\i=U O k/\Hid (∀j,j<k->(ns.getD j ek).e=0)/\Hid (∃D,wr.ownsMap AS 9 (plainElem (H:=Unit) AS 3) w.heap.size k D/\CB D (mS ns) k)/\Hid (Below w.heap.size w wr)) (λi _=>n-(intOf i).toNat)
 case atStart=>exact⟨0,IH _,rfl,λj hj=>by omega,⟨_,World.ownsMap_made _ _ _ _,yt _⟩,(Ib _ _).alloc (Ic _) _⟩
 case round=>
  obtain⟨k,hk,rfl,HZ,HD,HB⟩:=hrel;obtain⟨D,HO,HC⟩:=HD.out;have HO:Hid (wr.ownsMap _ _ _ _ _ _):=HO;have HC:Hid _:=HC;clear HD;have LN:=(HB.out.cell (p:=⟨g,0,be⟩) di).trans hg;by_cases aR:k<n
  .obtain⟨b,off,hp,hl,hr⟩:∃b off,pa=AI ⟨b,off,be⟩/\b<w.heap.size/\uX w b off ns:=by
    rcases HA.out with h|h
    .have:=HN.out;rw[h] at this;simp at this;omega
    .exact h
   subst hp;obtain⟨vm,vr,vs,vg,vw,L3,c0,c1,c2,c3,c4,c5,c6,c7,c8,c9,c10,c11⟩:=(hr.below HB.out hl).at (by rw[HN.out];exact aR);have HX:Hid ((ns.getD k ek).e≠0->j8 ns=(ns.getD k ek).e):=λh=>SU (by rw[HN.out];exact aR) HZ.out h;have ly:Hid ((ns.getD k ek).e=0->∀j,j<k+1->(ns.getD j ek).e=0):=λh j hj=>by
    by_cases e:j=k
    .subst e;exact h
    .exact HZ.out j (by omega)
   have HG:Hid (∀(c:Int),D.atKey (kS (ns.getD k ek).name) (.lit (.int O 0))=.lit (.int O c)->0<=c/\c<=k/\CB (D.put (kS (ns.getD k ek).name) (.lit (.int O (c+1)))) (mS ns) (k+1)):=λc hc=>by
    have h:=yu HC.out (c:=c) (by rw[iF];exact hc);rw[iF] at h;exact h
   have cC:=HB.out.size;generalize(ns.getD k ek)=nk at *;have dy:=L3.name;have mr:Hid (∀W,Below wr.heap.size wr W->Calls _ _ _ _ _):=λW hW=>oo nk vm vr vs vg vw W (L3.below hW);obtain⟨⟨am,cm,nF,_,_⟩,⟨ar,cr,uR,_,_⟩,⟨ax,cx,tF,_,_⟩,⟨ag,cg,zt,_,_⟩,⟨aw,cw,LU,_,_⟩,_,_⟩:=L3;subst nF uR tF zt LU;generalize aT:nk.e=ne at *;clear aT;obtain⟨nm,ct,ms,rs,sv,gw,⟨px,py,pz,ph,pq⟩,wh⟩:=nk;simp only[dw] at c0 c1 c2 c3 c4 c5 c6 c7 c8 c9 c10 c11 dy HG mr;have yz:=keyOf_string_mk Tryz.underlying9 dy;generalize ms.length=VL at *;generalize rs.length=VM at *;generalize sv.length=VN at *;generalize gw.length=VO at *;generalize wh.length=VP at *;clear hr HZ;have gK:(k:Int)<n:=by omega
   obtain⟨W1,cQ⟩:∃W1,W1=wr.alloc (By #[Y nm,Y ct,J am VL cm,J ar VM cr,J ax VN cx,J ag VO cg,U O px,U O py,U O pz,U O ph,U O pq,J aw VP cw] 42):=⟨_,rfl⟩;have aB:Below wr.heap.size wr W1:=by rw[cQ];exact(Ib _ _).alloc (Ic _) _
   have jW:Hid (W1.heap[wr.heap.size]?=AI (By #[Y nm,Y ct,J am VL cm,J ar VM cr,J ax VN cx,J ag VO cg,U O px,U O py,U O pz,U O ph,U O pq,J aw VP cw] 42 (0,0))):=by rw[cQ];exact Ii wr _
   have aY:Hid _:=aB;clear aB;go_upto_region 5 with fail
   rw[<- cQ];clear cQ c0 c1 c2 c3 c4 c5 c6 c7 c8 c9 c10 c11;obtain⟨d0,d1,d2,d3,d4,d5,d6,d7,d8,d9,d10,d11⟩:=bu jW.out;go_wp2_with fail;refine(mr.out W1 aY.out).mono ?_;rintro e w1 ⟨rfl,aB⟩;have SV:=aY.out.trans (aB.mono aY.out.size);have lz:Hid (w1.ownsMap _ _ _ _ _ _):=sC HO.out SV;have Na:Hid _:=HB.out.trans (SV.mono cC);have hm0:=ae ((aB.block _ (BY.1 jW.out).1).trans jW.out) 0;clear aB SV d0 d1 d2 d3 d4 d5 d6 d7 d8 d9 d10 d11 HB HO mr jW aY LN;by_cases he:ne=0
   .have kG:(ne !=0)=false:=by simpa using he
    have pZ:Hid _:=ly.out he;clear HX ly he;obtain⟨c,jK,cH,_⟩:=lz.out.lookup_int DM Jy IF (AK _) yz;obtain⟨g0,g1,g2⟩:=HG.out c cH;have wC:Hid _:=g2;clear g2 cH HG;go_wp2_with (first
     |(at_mapUpdate;refine wpList_mapUpdate_own _ rfl _ _ _ 125 rfl 9 3 DM Jy _ w.heap.size k _ rfl lz.out (by unfold Io;omega) _ _ _ rfl rfl yz _ [] (plainElem_int IF (WalkArith.wf_i64 (by omega))) ?_)
     |fail)
    intro w2 yA sD;have R1:Hid (∃D,w2.ownsMap AS 9 (plainElem (H:=Unit) AS 3) w.heap.size (k+1) D/\CB D (mS ns) (k+1)):=⟨_,yA,wC.out⟩;have R2:Hid _:=Na.out.grown sD Na.out.size (λj hj=>by cases hj;exact Ic _);clear yA sD lz Na;go_wp2_with fail;go_roundw
    case rel=>exact⟨k+1,by omega,by go_num,pZ,R1,R2⟩
    case measure=>simp[intOf];omega
   .have kG:(ne !=0)=true:=by simpa using he
    have HR:Hid _:=HX.out he;clear he HX ly;go_wp2_with fail;go_ret;exact⟨ai HR.out.symm,Na.out⟩
  .have gK:k=n:=by omega
   subst gK;have iL:Hid (JA D<k↔¬ iE ns):=by
    have h1:=HC.out;rw[<- HN.out] at h1 ⊢;exact⟨λh hd=>by rw[M9 h1 hd] at h;omega,λhd=>M8 h1 hd⟩
   have wD:Hid (¬ iE ns->j8 ns=6):=λhd=>BN (λj hj=>HZ.out j (by rw[<- HN.out];exact hj)) hd;have kx:Hid (iE ns->j8 ns=0):=λhd=>Dg (λj hj=>HZ.out j (by rw[<- HN.out];exact hj)) hd;by_cases hd:iE ns
   .have HE:Hid _:=kx.out hd
    have hs:=decide_eq_false (λh=>(iL.out.1 h) hd);have iU:¬ JA D<k:=λh=>(iL.out.1 h) hd;have KG:∀q,(Builtin.len_ #[125] 3 #[.map (AI w.heap.size)]).run AS (wr.drewN q)=.ok (U O (JA D)) (wr.drewN q):=λq=>World.ownsMap.len (w:=wr.drewN q) HO.out Jy 3;clear wD kx hd iL HZ;go_wp2_with fail;go_quiet (fail)
    go_wp2_with fail;go_ret;exact⟨ai HE.out.symm,Jc HB.out _⟩
   .have HE:Hid _:=wD.out hd
    have hs:=decide_eq_true (iL.out.2 hd);have iU:=iL.out.2 hd;have KG:∀q,(Builtin.len_ #[125] 3 #[.map (AI w.heap.size)]).run AS (wr.drewN q)=.ok (U O (JA D)) (wr.drewN q):=λq=>World.ownsMap.len (w:=wr.drewN q) HO.out Jy 3;clear wD kx hd iL HZ;go_wp2_with fail;go_quiet (fail)
    go_wp2_with fail;go_ret;exact⟨ai HE.out.symm,Jc HB.out _⟩
theorem lP(g n:Nat)(a:Option Addr)(cap:Nat)(x:Int)(w:World)(hg:w.cell? ⟨g,0,be⟩=AI (J a n cap))(hn:n<=6) :
 Calls AS 68 #[If (AI ⟨g,0,be⟩),U O x] w λe w'=>e=AT (Ia (within x 0 ((n:Int)-1)))/\Below w.heap.size w w':=by
 have h1:IntKind.i64.wrap ((n:Int)-1)=(n:Int)-1:=by rw[IntKind.wrap_i64];omega
 go_enter Tryz.func68,Tryz.ntmps68;go_wp2_with (go_at_call 54;refine(cf _ _ _ _).mono ?_;rintro e w' ⟨rfl,rfl⟩);go_ret;exact⟨rfl,Ib _ _⟩
theorem qJ(ls:List Lt.fg)(n g:Nat)(a:Option Addr)(cap:Nat)(v:Value)(w:World)(hV:Rv w.heap.size w)(hv:Lt.Sl w v ls)(hg:w.cell? ⟨g,0,be⟩=AI (J a n cap))(cI:w.cell? ⟨g,1,be⟩=AI v)(BQ:n<=6)(aeg:ls.length<=20)(hts:∀l∈ls,l.text.size<=16777216)(h0:nH (uW n) ls=0) :
 Calls AS 43 #[If (AI ⟨g,0,be⟩)] w λe w'=>e=AT (U O 0)/\Below w.heap.size w w':=by
 have di:=Iy w _ hg;obtain⟨pa,ca,rfl,_,ha⟩:=hv;have HA:Hid _:=ha;have HTS:Hid _:=hts;have HV:Hid _:=hV;have H0:Hid _:=h0;clear ha hts hV h0;generalize hN:ls.length=m at *;have HN:Hid _:=hN;clear hN;go_enter Tryz.func43,Tryz.ntmps43;go_wp2_with fail;go_loopw [13] (λi wr=>∃k:Nat,k<=m/\i=U O k/\Hid (∀j,j<k->uW n (ls.getD j Lt.dm)=0)/\Hid (Below w.heap.size w wr)) (λi _=>m-(intOf i).toNat)
 case atStart=>exact⟨0,IH _,rfl,λj hj=>by omega,Ib _ _⟩
 case round=>
  obtain⟨k,hk,rfl,HZ,HB⟩:=hrel;have cC:=HB.out.size;by_cases aR:k<m
  .obtain⟨b,off,hp,hl,hr⟩:∃b off,pa=AI ⟨b,off,be⟩/\b<w.heap.size/\Lt.Row w b off ls:=by
    rcases HA.out with h|h
    .have:=HN.out;rw[h] at this;simp at this;omega
    .exact h
   subst hp;obtain⟨c0,c1⟩:=(hr.later HB.out hl) k (by rw[HN.out];exact aR);have hle:uW n (ls.getD k Lt.dm)=0:=Decidable.byContradiction λh=>h ((xz _ Lt.dm ls k (by rw[HN.out];exact aR) HZ.out h).symm.trans H0.out);have pZ:Hid (∀j,j<k+1->uW n (ls.getD j Lt.dm)=0):=λj hj=>by
    by_cases e:j=k
    .subst e;exact hle
    .exact HZ.out j (by omega)
   have hkt:(ls.getD k Lt.dm).text.size<=16777216:=by
    have Nb:k<ls.length:=by rw[HN.out];exact aR
    apply HTS.out;rw[Iq,Ie Nb];exact IG Nb
   generalize ls.getD k Lt.dm=lk at *;obtain⟨to,tx⟩:=lk;simp only at c0 c1 hkt;have hle:(if within to 0 ((n:Int)-1)=true then(if(BM tx.data.toList).isSome=true then 0 else 1) else 3)=(0:Int):=hle;have hwi:within to 0 ((n:Int)-1)=true:=Decidable.byContradiction λh=>by rw[if_neg h] at hle;cases hle
   rw[if_pos hwi] at hle;obtain⟨p,hro⟩:∃p,BM tx.data.toList=AI p:=by
    cases hq:BM tx.data.toList with
    |some p=>exact⟨p,rfl⟩
    |none=>rw[hq] at hle;simp at hle
   obtain⟨W1,cQ⟩:∃W1,W1=wr.alloc (By #[U O to,Y tx] 102):=⟨_,rfl⟩;have aB:Below wr.heap.size wr W1:=by rw[cQ];exact(Ib _ _).alloc (Ic _) _
   have aY:Hid _:=HB.out.trans (aB.mono cC);have jW:Hid (W1.heap[wr.heap.size]?=AI (By #[U O to,Y tx] 102 (0,0))):=by rw[cQ];exact Ii wr _
   have l9:Hid (Calls _ _ _ _ _):=hwi▸lP g n a cap to W1 ((aY.out.cell (p:=⟨g,0,be⟩) di).trans hg) BQ;have PX:Hid (∀W,Below W1.heap.size W1 W->Calls _ _ _ _ _):=λW hW=>Dh (l:=tx.data.toList) ((HV.out.after aY.out).after hW) hkt hro;have d0:=ae jW.out 0;have d1:=ae jW.out 1;clear hr HZ aB hle hwi hro;go_upto_region 4 with fail
   rw[<- cQ];clear cQ c0 c1;go_wp2_with fail;refine l9.out.mono ?_;rintro e w2 ⟨rfl,aI⟩;have bp:Hid _:=aI;have d2:=(aI.cell (p:=⟨wr.heap.size,1,be⟩) (BY.1 jW.out).1).trans d1;clear aI l9 d0 d1;go_wp2_with fail;refine(PX.out w2 bp.out).mono ?_;rintro e w3 ⟨bU,ym,ys,yg,yw,rfl,ho⟩;obtain⟨a2,l2,c2,rfl⟩:=bn ho.ms;obtain⟨a3,l3,c3,rfl⟩:=bn ho.sv;obtain⟨a4,l4,c4,rfl⟩:=bn ho.gw;obtain⟨a5,l5,c5,rfl⟩:=bn ho.wh;have cF:Hid _:=aY.out.trans ((bp.out.trans (bU.mono bp.out.size)).mono aY.out.size);have SJ:Hid _:=cF.out.size;clear bU ho PX;go_wp2_with fail;go_roundw
   case rel=>exact⟨k+1,by omega,by go_num,pZ,cF.out.alloc SJ.out _⟩
   case measure=>simp[intOf];omega
  .have hd:decide ((k:Int)<(m:Int))=false:=by simp;omega
   clear HZ;go_wp2_with fail;go_ret;exact⟨rfl,HB.out⟩
end Go.Proofs.YtfidhgjmifendaaGreatDoor
namespace Go.Proofs.YtfidhgjmifendaaGreatDoor
open Go.RowKit
structure fU(w:World)(t:Nt)(vn vl:Value):Prop where
 ns:zy w vn t.ns
 ls:Lt.Sl w vl t.ls
theorem fU.below{w w':World}{t:Nt}{vn vl:Value}(h:fU w t vn vl)(hb:Below w.heap.size w w'):fU w' t vn vl:=⟨h.ns.below hb,h.ls.below hb⟩
def Nt.Di(t:Nt):Prop:=t.ls.length<=20->∀l∈t.ls,l.text.size<=16777216
theorem Nt.SX{t:Nt}(h:6<t.ns.length\/20<t.ls.length):t.e=2:=if_pos h
theorem Nt.Nc{t:Nt}(h:¬ (6<t.ns.length\/20<t.ls.length))(hn:j8 t.ns≠0):t.e=j8 t.ns:=by unfold Nt.e;rw[if_neg h,if_neg hn]
theorem Nt.qK{t:Nt}(h:¬ (6<t.ns.length\/20<t.ls.length))(hn:j8 t.ns=0):t.e=nH (uW t.ns.length) t.ls:=by unfold Nt.e;rw[if_neg h,if_pos hn]
theorem Nt.Ws{t:Nt}(h:t.e=0):nH (uW t.ns.length) t.ls=0:=by
 unfold Nt.e at h;split at h
 .cases h
 .split at h
  .exact h
  .exact absurd h (by assumption)
theorem zz(t:Nt)(g:Nat)(vn vl:Value)(w:World)(hV:Rv w.heap.size w)(h:fU w t vn vl)(hs:t.Di)(Pr:nH (uW t.ns.length) t.ls=0)(hg:w.cell? ⟨g,0,be⟩=AI vn)(cI:w.cell? ⟨g,1,be⟩=AI vl) :
 Calls AS 26 #[If (AI ⟨g,0,be⟩)] w λe w'=>e=AT (U O t.e)/\Below w.heap.size w w':=by
 have di:=Iy w _ hg;have HCN:Hid (t.ns.length<=6->Calls AS 42 #[If (AI ⟨g,0,be⟩)] w λe w'=>e=AT (U O (j8 t.ns))/\Below w.heap.size w w'):=λh6=>tK t.ns g vn w h.ns hg h6;have RP:Hid (t.ns.length<=6->t.ls.length<=20->∀W,Below w.heap.size w W->Calls AS 43 #[If (AI ⟨g,0,be⟩)] W λe w'=>e=AT (U O 0)/\Below W.heap.size W w'):=λh6 h20 W hW=>by
  obtain⟨a,cap,EJ,_⟩:=h.ns;exact qJ t.ls t.ns.length g a cap vl W (hV.after hW) (h.ls.below hW) ((hW.cell (p:=⟨g,0,be⟩) di).trans (by rw[hg,EJ])) ((hW.cell (p:=⟨g,1,be⟩) di).trans cI) h6 h20 (hs h20) Pr
 have wD:Hid ((6<t.ns.length\/20<t.ls.length)->t.e=2):=Nt.SX;have kx:Hid (¬ (6<t.ns.length\/20<t.ls.length)->j8 t.ns≠0->t.e=j8 t.ns):=Nt.Nc;have Dc:Hid (¬ (6<t.ns.length\/20<t.ls.length)->j8 t.ns=0->t.e=0):=λh h1=>(Nt.qK h h1).trans Pr;obtain⟨⟨pn,cn,EJ,_⟩,⟨pl,cl,kY,_,_⟩⟩:=h;subst EJ kY;generalize t.e=te at *;generalize j8 t.ns=ce at *;generalize t.ns.length=n at *;generalize t.ls.length=m at *;clear hs hV Pr;by_cases h6:6<n
 .have d1:decide ((6:Int)<(n:Int))=true:=by simp;omega
  have HE:Hid _:=wD.out (.inl h6);clear wD kx Dc h6;go_enter Tryz.func26,Tryz.ntmps26;go_wp2_with fail;go_ret;exact⟨ai HE.out.symm,Ib _ _⟩
 have d1:decide ((6:Int)<(n:Int))=false:=by simp;omega
 by_cases h20:20<m
 .have d2:decide ((20:Int)<(m:Int))=true:=by simp;omega
  have HE:Hid _:=wD.out (.inr h20);clear wD kx Dc h6 h20;go_enter Tryz.func26,Tryz.ntmps26;go_wp2_with fail;go_ret;exact⟨ai HE.out.symm,Ib _ _⟩
 have d2:decide ((20:Int)<(m:Int))=false:=by simp;omega
 have LW:Hid (Calls _ _ _ _ _):=HCN.out (by omega);have vt:Hid (∀W,Below w.heap.size w W->Calls _ _ _ _ _):=RP.out (by omega) (by omega);have SY:Hid _:=kx.out (by omega);have SZ:Hid _:=Dc.out (by omega);clear wD kx Dc h6 h20 HCN RP;go_enter Tryz.func26,Tryz.ntmps26;go_wp2_with fail;refine LW.out.mono ?_;rintro e w1 ⟨rfl,aB⟩;have aY:Hid _:=aB;clear aB;by_cases h0:ce=0
 .have he:(ce !=0)=false:=by simpa using h0
  have HE:Hid _:=SZ.out h0;clear h0 SY SZ;go_wp2_with fail;refine(vt.out w1 aY.out).mono ?_;rintro e w2 ⟨rfl,aI⟩;have bp:Hid _:=aY.out.trans (aI.mono aY.out.size);clear aI;go_wp2_with fail;go_ret;exact⟨ai HE.out.symm,bp.out⟩
 .have he:(ce !=0)=true:=by simpa using h0
  have HE:Hid _:=SY.out h0;clear h0 SY SZ;go_wp2_with fail;go_ret;exact⟨ai HE.out.symm,aY.out⟩
theorem lQ(t:Nt)(vn vl:Value)(w:World)(hV:Rv w.heap.size w)(h:fU w t vn vl)(hs:t.Di)(Pr:nH (uW t.ns.length) t.ls=0) :
 Calls AS 11 #[Ik #[vn,vl]] w λe w'=>e=AT (U O t.e)/\Below w.heap.size w w':=by
 have HC:Hid (∀W g,Below w.heap.size w W->W.cell? ⟨g,0,be⟩=AI vn->W.cell? ⟨g,1,be⟩=AI vl->Calls _ _ _ _ _):=λW g hW h0 h1=>zz t g vn vl W (hV.after hW) (h.below hW) hs Pr h0 h1;obtain⟨⟨pn,cn,EJ,_⟩,⟨pl,cl,kY,_,_⟩⟩:=h;subst EJ kY;generalize t.e=te at *;generalize t.ns.length=n at *;generalize t.ls.length=m at *;clear hs hV Pr;go_enter Tryz.func11,Tryz.ntmps11;go_wp2_with fail;refine(HC.out _ _ (((Ib _ _).alloc (Ic _) _).alloc (by simp) _) (by simp) (by simp)).mono ?_;rintro e w1 ⟨rfl,aB⟩;have aY:Hid _:=((((Ib w.heap.size w).alloc (Ic _) _).alloc (by simp) _).trans (aB.mono (by simp;omega)));clear aB;go_wp2_with fail;go_ret;exact⟨rfl,aY.out⟩
structure Nx where
 n:Nd
 vm:Value
 vr:Value
 vs:Value
 vg:Value
 vw:Value
def Nx.cs(x:Nx):List Value:=(dw x.n x.vm x.vr x.vs x.vg x.vw).toList
def bW:Nx:=⟨ek,J be 0 0,J be 0 0,J be 0 0,J be 0 0,J be 0 0⟩
def iS(L:List Nx):List Value:=L.flatMap Nx.cs
theorem jv(x:Nx):x.cs.length=12:=rfl
theorem xA:∀L:List Nx,(iS L).length=L.length*12
 |[]=>rfl
 |x::L=>by
  have:=xA L;unfold iS at this ⊢;rw[I1,Ih,this,jv,Iz];omega
theorem ko(a b:List Nx):iS (a++b)=iS a++iS b:=by simp[iS]
theorem sn(x:Nx):iS [x]=x.cs:=by simp[iS]
theorem lR(L:List Nx)(j:Nat)(hj:j<L.length)(t:Nat)(ht:t<12):(iS L)[j*12+t]?=(L.getD j bW).cs[t]?:=by
 induction L generalizing j with
 |nil=>simp at hj
 |cons m r ih=>
  have e:iS (m::r)=m.cs++iS r:=by simp[iS]
  rw[e];cases j with
  |zero=>rw[Js (by rw[jv];omega)];simp
  |succ j=>
   rw[Jr (by rw[jv];omega),jv,show(j+1)*12+t-12=j*12+t by omega,ih j (by simpa using hj)];simp
theorem oz{b:Nat}{T:TypeId}{f:Nat×Nat}:∀(L pre Mr post:List Value) {w:World},w.heap[b]?=AI (By (pre++Mr++post).toArray T f)->Mr.length=L.length->(aD b L pre.length w).heap[b]?=AI (By (pre++L++post).toArray T f)
 |[],pre,Mr,post,w,h,hl=>by
  have:Mr=[]:=List.eq_nil_of_length_eq_zero (by simpa using hl)
  subst this;exact h
 |x::r,pre,[],post,w,h,hl=>absurd hl (by simp)
 |x::r,pre,y::s,post,w,h,hl=>by
  have h1:=Joins.block_setCell (i:=pre.length) h x;rw[List.setIfInBounds_toArray,show(pre++y::s++post).set pre.length x=(pre++[x])++s++post by simp] at h1;have h2:=oz r (pre++[x]) s post h1 (by simpa using hl);rw[show(pre++[x]).length=pre.length+1 by simp,show(pre++[x])++r++post=pre++x::r++post by simp] at h2;exact h2
structure ri(B:Nat)(w:World)(t:Nt)(un ul:Value)(nb:Nat)(L:List Nx):Prop where
 un:un=J (AI ⟨nb,0,be⟩) t.ns.length t.ns.length
 le:B<=nb
 ns:L.map (·.n)=t.ns
 row:w.heap[nb]?=AI (By (iS L).toArray 42 (0,0))
 own:∀x∈L,cJ (nb+1) w x.n x.vm x.vr x.vs x.vg x.vw
 ls:Lt.Own (nb+1) w ul t.ls
theorem cJ.fa{B:Nat}{w w':World}{n:Nd}{vm vr vs vg vw:Value}(h:cJ B w n vm vr vs vg vw)(hk:∀b,B<=b->b<w.heap.size->w'.heap[b]?=w.heap[b]?):cJ B w' n vm vr vs vg vw:=⟨ee hk h.ms,ee hk h.rs,ee hk h.sv,ee hk h.gw,ee hk h.wh⟩
theorem zA{base iK:Nat}{w:World}{T:TypeId}{k n:Nat}{v:Value}{cs:List Value}(h:w.ownsRow base T k v n cs)(hb:iK<=base):w.ownsRow iK T k v n cs:=by
 rcases h.2 with⟨rfl,h0⟩|⟨g,c,cur,rfl,ey,r⟩
 .exact⟨h.1,.inl ⟨rfl,h0⟩⟩
 .exact⟨h.1,.inr ⟨g,c,cur,rfl,Ir hb ey,r⟩⟩
theorem cJ.mono{A B:Nat}{w:World}{n:Nd}{vm vr vs vg vw:Value}(h:cJ B w n vm vr vs vg vw)(hb:A<=B):cJ A w n vm vr vs vg vw:=⟨h.ms.mono hb,zA h.rs hb,h.sv.mono hb,h.gw.mono hb,h.wh.mono hb⟩
def Nf:Value:=Ik #[Y ⟨#[]⟩,Y ⟨#[]⟩,J be 0 0,J be 0 0,J be 0 0,J be 0 0,U O 0,U O 0,U O 0,U O 0,U O 0,J be 0 0]
theorem Ng:madeCells Nf.cells (0*12)=(iS (Jn 0 bW)).toArray:=by kernel_rfl
theorem Nh:madeCells Nf.cells (1*12)=(iS (Jn 1 bW)).toArray:=by kernel_rfl
theorem Ni:madeCells Nf.cells (2*12)=(iS (Jn 2 bW)).toArray:=by kernel_rfl
theorem Nj:madeCells Nf.cells (3*12)=(iS (Jn 3 bW)).toArray:=by kernel_rfl
theorem Nk:madeCells Nf.cells (4*12)=(iS (Jn 4 bW)).toArray:=by kernel_rfl
theorem Nl:madeCells Nf.cells (5*12)=(iS (Jn 5 bW)).toArray:=by kernel_rfl
theorem Nn:madeCells Nf.cells (6*12)=(iS (Jn 6 bW)).toArray:=by kernel_rfl
theorem BR(n:Nat)(h:n<=6):madeCells Nf.cells (n*12)=(iS (Jn n bW)).toArray:=by
 have h7:n=0\/n=1\/n=2\/n=3\/n=4\/n=5\/n=6:=by omega
 rcases h7 with rfl|rfl|rfl|rfl|rfl|rfl|rfl
 .exact Ng
 .exact Nh
 .exact Ni
 .exact Nj
 .exact Nk
 .exact Nl
 .exact Nn
theorem Tryz.S5:(Tryz.prog.info? 42).map (λi=>(i.zero,i.size,i.bytes))=AI (AI (Ik #[Y ⟨#[]⟩,Y ⟨#[]⟩,J be 0 0,J be 0 0,J be 0 0,J be 0 0,U O 0,U O 0,U O 0,U O 0,U O 0,J be 0 0]),12,192):=by kernel_rfl
theorem tL(t:Nt)(vn vl:Value)(w:World)(h:fU w t vn vl)(BQ:t.ns.length<=6)(aeg:t.ls.length<=20)(yQ:∀n∈t.ns,n.ms.length<=1000/\n.rs.length<=1000/\n.sv.length<=1000/\n.gw.length<=1000/\n.wh.length<=1000) :
 Calls AS 32 #[Ik #[vn,vl]] w λe w'=>∃un a l c L,e=AT (Ik #[un,J a l c])/\ri w.heap.size w' t un (J a l c) (w.heap.size+2) L/\Below w.heap.size w w':=by
 obtain⟨i0,fW,dd,gY,gG⟩:=info_parts Tryz.S5;have RP:Hid (∀W,Below w.heap.size w W->Calls _ _ _ _ _):=λW hW=>Lt.eV t.ls vl W (h.ls.below hW) (by omega);have HSM:Hid _:=yQ;obtain⟨⟨pn,cn,EJ,ha⟩,⟨pl,cl,kY,_,_⟩⟩:=h;subst EJ kY;obtain⟨ns,ls⟩:=t;simp only at *;have HA:Hid _:=ha;clear ha yQ;generalize hN:ns.length=n at *;have HN:Hid _:=hN;clear hN;generalize ls.length=m at *;obtain⟨W0,bA⟩:∃W0,W0=(w.alloc (By #[J pn n cn,J pl m cl] 27)).alloc (By #[J be 0 0,J be 0 0] 27):=⟨_,rfl⟩;have bM:Below w.heap.size w W0:=by rw[bA];exact((Ib _ _).alloc (Ic _) _).alloc (by simp) _
 have eE:W0.heap.size=w.heap.size+2:=by rw[bA];simp
 have k0:W0.heap[w.heap.size]?=AI (By #[J pn n cn,J pl m cl] 27 (0,0)):=by
  rw[bA];exact(Lib.alloc_old _ _ _ (by simp)).trans (Ii w _)
 have k1:W0.heap[w.heap.size+1]?=AI (By #[J be 0 0,J be 0 0] 27 (0,0)):=by
  rw[bA];have:=Ii (w.alloc (By #[J pn n cn,J pl m cl] 27)) (By #[J be 0 0,J be 0 0] 27);simpa using this
 obtain⟨W1,cQ⟩:∃W1,W1=W0.alloc (By (iS (Jn n bW)).toArray 42):=⟨_,rfl⟩;have Sc:(Instr.makeSlice 24 (U O (n:Int)) (U O (n:Int))).run AS W0=.ok (J (AI ⟨w.heap.size+2,0,be⟩) n n) W1:=by
  have h:=run_makeSlice (P:=AS) (w:=W0) 24 42 i0 _ Tryz.underlying24 fW dd O O (n:Int) (n:Int) (by omega) (Int.le_refl _) (by rw[gY];omega) (by rw[gG];omega) (by omega);have hm:=BR n BQ;unfold Nf at hm;rw[gY,JM,hm,eE] at h;rw[cQ];exact h
 have aB:Below W0.heap.size W0 W1:=by rw[cQ];exact(Ib _ _).alloc (Ic _) _
 have kn:W1.heap[w.heap.size+2]?=AI (By (iS (Jn n bW)).toArray 42 (0,0)):=by rw[cQ,<- eE];exact Ii W0 _
 have fh:W1.heap.size=w.heap.size+3:=by rw[cQ];simp;omega
 have mm:Hid (W1.heap[w.heap.size]?=AI (By #[J pn n cn,J pl m cl] 27 (0,0))/\W1.heap[w.heap.size+1]?=AI (By #[J be 0 0,J be 0 0] 27 (0,0))/\Below w.heap.size w W1):=⟨(aB.block _ (by omega)).trans k0,(aB.block _ (by omega)).trans k1,bM.trans (aB.mono (by omega))⟩;have L5:Hid _:=kn;have tr:Hid _:=fh;have x0:=ae k0 0;have x1:=ae mm.out.1 0;clear bM aB k0 k1 kn cQ eE fh fW dd gY gG;go_enter Tryz.func32,Tryz.ntmps32;go_upto_region 1 with fail
 rw[<- bA];clear bA;go_wp2_with fail;clear Sc x0 x1;go_loopw [13] (λi wr=>∃(k:Nat) (L:List Nx),k<=n/\i=U O k/\Hid (L.map (·.n)=ns.take k/\L.length=k)/\Hid (wr.heap[w.heap.size+2]?=AI (By (iS (L++Jn (n-k) bW)).toArray 42 (0,0)))/\Hid (∀x∈L,cJ (w.heap.size+3) wr x.n x.vm x.vr x.vs x.vg x.vw)/\Hid (wr.heap[w.heap.size]?=AI (By #[J pn n cn,J pl m cl] 27 (0,0))/\wr.heap[w.heap.size+1]?=AI (By #[J be 0 0,J be 0 0] 27 (0,0))/\Below w.heap.size w wr)/\w.heap.size+3<=wr.heap.size) (λi _=>n-(intOf i).toNat)
 case atStart=>exact⟨0,[],IH _,rfl,⟨rfl,rfl⟩,L5,(λx hx=>by cases hx),mm,by have:=tr.out;omega⟩
 case round=>
  obtain⟨k,L,hk,rfl,HL,HK,HO,HB,cC⟩:=hrel;by_cases aR:k<n
  .obtain⟨b,off,hp,hl,hr⟩:∃b off,pn=AI ⟨b,off,be⟩/\b<w.heap.size/\uX w b off ns:=by
    rcases HA.out with h|h
    .have:=HN.out;rw[h] at this;simp at this;omega
    .exact h
   subst hp;obtain⟨vm,vr,vs,vg,vw,L3,c0,c1,c2,c3,c4,c5,c6,c7,c8,c9,c10,c11⟩:=(hr.below HB.out.2.2 hl).at (by rw[HN.out];exact aR);have iI:k<ns.length:=by rw[HN.out];exact aR
   have HTK:Hid (ns.take (k+1)=ns.take k++[ns.getD k ek]):=by
    show _=_;rw[List.take_add_one,Iq,Ie iI];rfl
   have EK:=HSM.out (ns.getD k ek) (by rw[Iq,Ie iI];exact IG iI);generalize(ns.getD k ek)=nk at *;have Kz:Hid (∀W,Below wr.heap.size wr W->Calls _ _ _ _ _):=λW hW=>qw nk vm vr vs vg vw W (L3.below hW) EK.1 EK.2.1 EK.2.2.1 EK.2.2.2.1 EK.2.2.2.2;obtain⟨⟨am,cm,nF,_,_⟩,⟨ar,cr,uR,_,_⟩,⟨ax,cx,tF,_,_⟩,⟨ag,cg,zt,_,_⟩,⟨aw,cw,LU,_,_⟩,_,_⟩:=L3;subst nF uR tF zt LU;obtain⟨nm,ct,ms,rs,sv,gw,⟨px,py,pz,ph,pq⟩,wh⟩:=nk;simp only[dw] at c0 c1 c2 c3 c4 c5 c6 c7 c8 c9 c10 c11 Kz;clear hr EK iI;have gK:(k:Int)<n:=by omega
   obtain⟨W2,bL⟩:∃W2,W2=wr.alloc (By #[Y nm,Y ct,J am ms.length cm,J ar rs.length cr,J ax sv.length cx,J ag gw.length cg,U O px,U O py,U O pz,U O ph,U O pq,J aw wh.length cw] 42):=⟨_,rfl⟩;have aI:Below wr.heap.size wr W2:=by rw[bL];exact(Ib _ _).alloc (Ic _) _
   have AO:Hid (W2.heap[wr.heap.size]?=AI (By #[Y nm,Y ct,J am ms.length cm,J ar rs.length cr,J ax sv.length cx,J ag gw.length cg,U O px,U O py,U O pz,U O ph,U O pq,J aw wh.length cw] 42 (0,0))):=by rw[bL];exact Ii wr _
   have bp:Hid _:=aI;clear aI;go_upto_region 5 with fail
   rw[<- bL];clear bL c0 c1 c2 c3 c4 c5 c6 c7 c8 c9 c10 c11;obtain⟨d0,d1,d2,d3,d4,d5,d6,d7,d8,d9,d10,d11⟩:=bu AO.out;go_wp2_with fail;refine(Kz.out W2 bp.out).mono ?_;rintro e w3 ⟨um,ur,us,ug,uw,rfl,kZ,bU⟩;have BS:=bp.out.trans (bU.mono bp.out.size);have jw:w3.heap[w.heap.size+2]?=AI (By (iS (L++Jn (n-k) bW)).toArray 42 (0,0)):=(BS.block _ (by omega)).trans HK.out;have DU:=HL.out.2;have hnk:Jn (n-k) bW=bW::Jn (n-(k+1)) bW:=by rw[show n-k=(n-(k+1))+1 by omega,List.replicate_succ]
   have Wt:iS (L++Jn (n-k) bW)=iS L++bW.cs++iS (Jn (n-(k+1)) bW):=by
    rw[ko,hnk,show iS (bW::Jn (n-(k+1)) bW)=bW.cs++iS (Jn (n-(k+1)) bW) by simp[iS],Ip]
   have hlen:(iS L).length=k*12:=by rw[xA,DU]
   rw[Wt] at jw;have hz:∀i,i<12->w3.cell? ⟨w.heap.size+2,k*12+i,be⟩=bW.cs[i]? /\ w3.frozen? ⟨w.heap.size+2,k*12+i,be⟩=false:=λi hi=>by
    refine⟨?_,by simp[Is,jw]⟩;rw[ae jw];rw[List.getElem?_toArray,Ip,Jr (by omega),hlen,Nat.add_sub_cancel_left,Js (by rw[jv];omega)]
   have e0:w3.cell? ⟨w.heap.size+2,k*12,be⟩=AI (Y ⟨#[]⟩):=(hz 0 (by omega)).1;have z0:w3.frozen? ⟨w.heap.size+2,k*12,be⟩=false:=(hz 0 (by omega)).2;have e1:w3.cell? ⟨w.heap.size+2,k*12+1,be⟩=AI (Y ⟨#[]⟩):=(hz 1 (by omega)).1;have z1:w3.frozen? ⟨w.heap.size+2,k*12+1,be⟩=false:=(hz 1 (by omega)).2;have e2:w3.cell? ⟨w.heap.size+2,k*12+2,be⟩=AI (J be 0 0):=(hz 2 (by omega)).1;have z2:w3.frozen? ⟨w.heap.size+2,k*12+2,be⟩=false:=(hz 2 (by omega)).2;have e3:w3.cell? ⟨w.heap.size+2,k*12+3,be⟩=AI (J be 0 0):=(hz 3 (by omega)).1;have z3:w3.frozen? ⟨w.heap.size+2,k*12+3,be⟩=false:=(hz 3 (by omega)).2;have e4:w3.cell? ⟨w.heap.size+2,k*12+4,be⟩=AI (J be 0 0):=(hz 4 (by omega)).1;have z4:w3.frozen? ⟨w.heap.size+2,k*12+4,be⟩=false:=(hz 4 (by omega)).2;have e5:w3.cell? ⟨w.heap.size+2,k*12+5,be⟩=AI (J be 0 0):=(hz 5 (by omega)).1;have z5:w3.frozen? ⟨w.heap.size+2,k*12+5,be⟩=false:=(hz 5 (by omega)).2;have e6:w3.cell? ⟨w.heap.size+2,k*12+6,be⟩=AI (U O 0):=(hz 6 (by omega)).1;have z6:w3.frozen? ⟨w.heap.size+2,k*12+6,be⟩=false:=(hz 6 (by omega)).2;have e7:w3.cell? ⟨w.heap.size+2,k*12+7,be⟩=AI (U O 0):=(hz 7 (by omega)).1;have z7:w3.frozen? ⟨w.heap.size+2,k*12+7,be⟩=false:=(hz 7 (by omega)).2;have e8:w3.cell? ⟨w.heap.size+2,k*12+8,be⟩=AI (U O 0):=(hz 8 (by omega)).1;have z8:w3.frozen? ⟨w.heap.size+2,k*12+8,be⟩=false:=(hz 8 (by omega)).2;have e9:w3.cell? ⟨w.heap.size+2,k*12+9,be⟩=AI (U O 0):=(hz 9 (by omega)).1;have z9:w3.frozen? ⟨w.heap.size+2,k*12+9,be⟩=false:=(hz 9 (by omega)).2;have e10:w3.cell? ⟨w.heap.size+2,k*12+10,be⟩=AI (U O 0):=(hz 10 (by omega)).1;have z10:w3.frozen? ⟨w.heap.size+2,k*12+10,be⟩=false:=(hz 10 (by omega)).2;have e11:w3.cell? ⟨w.heap.size+2,k*12+11,be⟩=AI (J be 0 0):=(hz 11 (by omega)).1;have z11:w3.frozen? ⟨w.heap.size+2,k*12+11,be⟩=false:=(hz 11 (by omega)).2;obtain⟨bm,em,hum,_⟩:=aA kZ.ms;obtain⟨br,er,hur,_⟩:=aA kZ.rs;obtain⟨bx,ex,hus,_⟩:=aA kZ.sv;obtain⟨bg,eg,hug,_⟩:=aA kZ.gw;obtain⟨bw,ew,huw,_⟩:=aA kZ.wh;simp only at hum hur hus hug huw;subst hum hur hus hug huw;clear hz Wt hnk d0 d1 d2 d3 d4 d5 d6 d7 d8 d9 d10 d11;obtain⟨W4,nL⟩:∃W4,W4=aD (w.heap.size+2) [Y nm,Y ct,J bm ms.length em,J br rs.length er,J bx sv.length ex,J bg gw.length eg,U O px,U O py,U O pz,U O ph,U O pq,J bw wh.length ew] (k*12) w3:=⟨_,rfl⟩;have DP:Hid (W4.heap[w.heap.size+2]?=AI (By (iS ((L++[⟨⟨nm,ct,ms,rs,sv,gw,⟨px,py,pz,ph,pq⟩,wh⟩,J bm ms.length em,J br rs.length er,J bx sv.length ex,J bg gw.length eg,J bw wh.length ew⟩])++Jn (n-(k+1)) bW)).toArray 42 (0,0))):=by
    have h:=oz [Y nm,Y ct,J bm ms.length em,J br rs.length er,J bx sv.length ex,J bg gw.length eg,U O px,U O py,U O pz,U O ph,U O pq,J bw wh.length ew] (iS L) bW.cs (iS (Jn (n-(k+1)) bW)) jw rfl;rw[hlen,<- nL] at h;rw[ko,ko,sn];exact h
   have et:∀q,q≠w.heap.size+2->W4.heap[q]?=w3.heap[q]?:=λq hq=>by rw[nL];exact aV hq _ _ _
   have mj:W4.heap.size=w3.heap.size:=by rw[nL];exact ff _ _ _ _
   have nD:Hid (∀x∈L++[(⟨⟨nm,ct,ms,rs,sv,gw,⟨px,py,pz,ph,pq⟩,wh⟩,J bm ms.length em,J br rs.length er,J bx sv.length ex,J bg gw.length eg,J bw wh.length ew⟩:Nx)],cJ (w.heap.size+3) W4 x.n x.vm x.vr x.vs x.vg x.vw):=λx hx=>by
    rcases JE.1 hx with hx|hx
    .exact((HO.out x hx).below BS).fa (λq hq _=>et q (by omega))
    .rw[Jo.1 hx]
     exact(kZ.mono (by have:=bp.out.size;omega)).fa (λq hq _=>et q (by omega))
   have fE:Hid (W4.heap[w.heap.size]?=AI (By #[J (AI ⟨b,off,be⟩) n cn,J pl m cl] 27 (0,0))/\W4.heap[w.heap.size+1]?=AI (By #[J be 0 0,J be 0 0] 27 (0,0))/\Below w.heap.size w W4):=⟨(et _ (by omega)).trans ((BS.block _ (by omega)).trans HB.out.1),(et _ (by omega)).trans ((BS.block _ (by omega)).trans HB.out.2.1),by rw[nL];exact aP (by omega) _ _ (HB.out.2.2.trans (BS.mono (by omega)))⟩;have RN:Hid ((L++[(⟨⟨nm,ct,ms,rs,sv,gw,⟨px,py,pz,ph,pq⟩,wh⟩,J bm ms.length em,J br rs.length er,J bx sv.length ex,J bg gw.length eg,J bw wh.length ew⟩:Nx)]).map (·.n)=ns.take (k+1)/\(L++[(⟨⟨nm,ct,ms,rs,sv,gw,⟨px,py,pz,ph,pq⟩,wh⟩,J bm ms.length em,J br rs.length er,J bx sv.length ex,J bg gw.length eg,J bw wh.length ew⟩:Nx)]).length=k+1):=⟨by rw[List.map_append,HL.out.1,HTK.out];rfl,by rw[Ih,DU];rfl⟩;have aej:w.heap.size+3<=W4.heap.size:=by rw[mj];have:=BS.size;omega
   clear et mj jw hlen kZ bU BS DU HTK HO HK HL HB bp AO Kz;go_upto_region 6 with fail
   simp only[aD,Nat.add_assoc,Jg] at nL;rw[<- nL];clear nL e0 e1 e2 e3 e4 e5 e6 e7 e8 e9 e10 e11 z0 z1 z2 z3 z4 z5 z6 z7 z8 z9 z10 z11;go_wp2_with fail;exact⟨⟨k+1,_,by omega,by go_num,RN,DP,nD,fE,aej⟩,by simp[intOf];omega⟩
  .have gK:k=n:=by omega
   have hd:decide ((k:Int)<(n:Int))=false:=by simp;omega
   have x2:=ae HB.out.1 1;go_wp2_with fail;refine(RP.out wr HB.out.2.2).mono ?_;rintro e w5 ⟨v',rfl,PZ,jz⟩;obtain⟨al,ll,kl,rfl⟩:=bn PZ;have mQ:=(jz.block _ (by omega)).trans HB.out.2.1;obtain⟨W6,uh⟩:∃W6,W6=aD (w.heap.size+1) [J (AI ⟨w.heap.size+2,0,be⟩) n n,J al ll kl] 0 w5:=⟨_,rfl⟩;have Dj:W6.heap[w.heap.size+1]?=AI (By #[J (AI ⟨w.heap.size+2,0,be⟩) n n,J al ll kl] 27 (0,0)):=by rw[uh];exact bD [J (AI ⟨w.heap.size+2,0,be⟩) n n,J al ll kl] [] [J be 0 0,J be 0 0] mQ rfl
   have et:∀q,q≠w.heap.size+1->W6.heap[q]?=w5.heap[q]?:=λq hq=>by rw[uh];exact aV hq _ _ _
   have gO:Hid (∃un a l c L,Ending.returned (Ik #[J (AI ⟨w.heap.size+2,0,be⟩) n n,J al ll kl])=AT (Ik #[un,J a l c])/\ri w.heap.size W6 ⟨ns,ls⟩ un (J a l c) (w.heap.size+2) L/\Below w.heap.size w W6):=by
    have hHK:=HK.out;rw[show n-k=0 by omega] at hHK;simp only[List.replicate_zero,JF] at hHK;refine⟨_,_,_,_,L,rfl,⟨by rw[HN.out],by omega,?_,?_,?_,?_⟩,?_⟩
    .rw[HL.out.1,gK,<- HN.out,List.take_length]
    .exact(et _ (by omega)).trans ((jz.block _ (by omega)).trans hHK)
    .exact λx hx=>((HO.out x hx).below jz).fa (λq hq _=>et q (by omega))
    .exact ee (λq hq _=>et q (by omega)) (zA PZ (by omega))
    .rw[uh];exact aP (by omega) _ _ (HB.out.2.2.trans (jz.mono (by omega)))
   have g0:=ae mQ 0;have g1:=ae mQ 1;have f0:w5.frozen? ⟨w.heap.size+1,0,be⟩=false:=by simp[Is,mQ]
   have f1:w5.frozen? ⟨w.heap.size+1,1,be⟩=false:=by simp[Is,mQ]
   have q0:=ae Dj 0;have q1:=ae Dj 1;clear mQ Dj et PZ jz HB HO HK HL gK hd x2 RP;go_wp2_with fail;simp only[aD,ID] at uh;rw[<- uh];clear uh g0 g1 f0 f1;exact IL (v:=Ik #[J (AI ⟨w.heap.size+2,0,be⟩) n n,J al ll kl]) (by simp[results,Tryz.results32,go_sem,q0,q1]) rfl gO.out
structure cG(C:Nat)(w:World)(nb:Nat)(L:List Nx):Prop where
 le:C<=nb
 row:w.heap[nb]?=AI (By (iS L).toArray 42 (0,0))
 own:∀x∈L,cJ C w x.n x.vm x.vr x.vs x.vg x.vw
 ok:∀x∈L,iq x.n
theorem cJ.mv{C B:Nat}{w w':World}{n:Nd}{vm vr vs vg vw:Value}(h:cJ B w n vm vr vs vg vw)(hm:Mv C w w'):cJ B w' n vm vr vs vg vw:=
 ⟨en h.ms (λb cs f e=>hm.fa b cs _ f e (by decide) (by decide)),en h.rs (λb cs f e=>hm.fa b cs _ f e (by decide) (by decide)),en h.sv (λb cs f e=>hm.fa b cs _ f e (by decide) (by decide)),en h.gw (λb cs f e=>hm.fa b cs _ f e (by decide) (by decide)),en h.wh (λb cs f e=>hm.fa b cs _ f e (by decide) (by decide))⟩
theorem cG.mv{C nb:Nat}{w w':World}{L:List Nx}(h:cG C w nb L)(hm:Mv C w w'):cG C w' nb L:=⟨h.le,hm.fa _ _ _ _ h.row (by decide) (by decide),λx hx=>(h.own x hx).mv hm,h.ok⟩
theorem cG.below{C nb:Nat}{w w':World}{L:List Nx}(h:cG C w nb L)(hb:Below w.heap.size w w')(hC:C<=w.heap.size):cG C w' nb L:=h.mv (Mv.of hb hC)
theorem gl{L:List Nx}{j:Nat}(hj:j<L.length):L.getD j bW∈L:=by rw[Iq,Ie hj];exact IG hj
theorem cG.cell{C nb:Nat}{w:World}{L:List Nx}(h:cG C w nb L){j:Nat}(hj:j<L.length)(i:Nat)(hi:i<12):w.cell? ⟨nb,0+j*12+i,be⟩=(L.getD j bW).cs[i]?:=by
 rw[ae h.row];simpa using lR L j hj i hi
theorem xB(C g nb j n cap:Nat)(L:List Nx)(w:World)(hN:cG C w nb L)(hj:j<L.length)(hn:n=L.length)(g0:w.cell? ⟨g,0,be⟩=AI (J (AI ⟨nb,0,be⟩) n cap))(g3:w.cell? ⟨g,3,be⟩=AI (U O (j:Int))) :
 Calls AS 85 #[If (AI ⟨g,0,be⟩)] w λe w'=>e=AT (Ik (dw (L.getD j bW).n (L.getD j bW).vm (L.getD j bW).vr (L.getD j bW).vs (L.getD j bW).vg (L.getD j bW).vw))/\Below w.heap.size w w':=by
 have hc:=λi hi=>hN.cell hj i hi;have ho:=hN.own _ (gl hj);generalize L.getD j bW=x at *;obtain⟨⟨nm,ct,ms,rs,sv,gw,⟨px,py,pz,ph,pq⟩,wh⟩,vm,vr,vs,vg,vw⟩:=x;obtain⟨a2,c2,h2⟩:=aJ ho.ms;obtain⟨a3,c3,h3⟩:=aJ ho.rs;obtain⟨a4,c4,h4⟩:=aJ ho.sv;obtain⟨a5,c5,h5⟩:=aJ ho.gw;obtain⟨a11,c11,h11⟩:=aJ ho.wh;simp only at h2 h3 h4 h5 h11;subst h2 h3 h4 h5 h11;exact Sr g nb 0 n cap j nm ct a2 a3 a4 a5 a11 _ c2 _ c3 _ c4 _ c5 _ c11 px py pz ph pq w g0 g3 (by omega) (hc 0 (by omega)) (hc 1 (by omega)) (hc 2 (by omega)) (hc 3 (by omega)) (hc 4 (by omega)) (hc 5 (by omega)) (hc 6 (by omega)) (hc 7 (by omega)) (hc 8 (by omega)) (hc 9 (by omega)) (hc 10 (by omega)) (hc 11 (by omega))
def eu(n:Nd):Pk:=⟨n.name,true,n.ms,n.sv,n.gw,n.wh⟩
end Go.Proofs.YtfidhgjmifendaaGreatDoor
