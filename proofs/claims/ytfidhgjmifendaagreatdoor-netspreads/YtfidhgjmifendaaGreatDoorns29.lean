import Derived.Test.YtfidhgjmifendaaGreatDoorns21
import Derived.Test.YtfidhgjmifendaaGreatDoorns28
set_option maxHeartbeats 12800000
set_option maxRecDepth 100000
open Go.Lib renaming decDigits→OH,itoa→Qt,indexByte→Je,indexByte_ge→QT
open List renaming singleton_append→OV,append_assoc→Io,mem_singleton→I8,mem_append→Jq,append_nil→JF,mem_cons_self→J2,mem_cons→IQ,mem_cons_of_mem→J3,length_cons→Iw,length_append→Ig,flatMap_cons→I2,flatMap_nil→Ot,nil_append→Qu,range→Jx,length_singleton→Ob,getD→Ip,getElem?_eq_getElem→If,getElem_mem→IJ,getElem?_append_left→Js,getElem?_append_right→Jr,replicate→Jn
open Option renaming some→AI,bind_some→Jg,bind_eq_some_iff→Ix,none→be
open Int renaming toNat_natCast→JN
open Option.some renaming injEq→It
open Prod.mk renaming injEq→IS
open Go.Value renaming slice→J,string→Y,int→U,bool→Ia,pointer→Ie,tuple→Ik,agg→Ij
open Nat renaming lt_of_lt_of_le→IL,le_refl→Ic,le_trans→Ir,zero_add→IC,reduceAdd→Jf,zero_le→IP
open Go.IntKind renaming i64→O
open Go renaming maxLen→Il,bodyPost_ret→IK,heap_alloc_new→Ih
open Go.Obj renaming cells→By
open Go.Ending renaming returned→AT
open Go.Proofs.Tryz renaming prog→AS,underlying125→JA,underlying3→ID
open Array renaming getElem?_eq_some_iff→BY
open Go.World renaming frozen?→Is,block_lt_of_cell?→Iy
open Go.Maps renaming size→JC
open Go.RowKit.Below renaming refl→Ib
namespace Go.Proofs.YtfidhgjmifendaaGreatDoor
open Go.RowKit
theorem xT{d:Nat}(h:d<10):(UInt8.ofNat (48+d)).toNat=48+d:=by
 rw[UInt8.toNat_ofNat'];omega
theorem SY(u:Nat)(hu:u<18446744073709551616)(t:List UInt8):Lib.parseUint10 0 (OH u++t)=Lib.parseUint10 u t:=by
 induction u using Nat.strongRecOn generalizing t with
 |_ u ih=>
  rw[OH];split
  .rename_i h
   rw[OV,Lib.parseUint10,xT h,if_pos (by omega),if_neg (by omega),if_neg (by omega)];congr 1;omega
  .rename_i h
   rw[Io,ih (u/10) (by omega) (by omega),OV,Lib.parseUint10,xT (by omega),if_pos (by omega),if_neg (by omega),if_neg (by omega)];congr 1;omega
theorem xU(u:Nat):∀c∈OH u,48<=c.toNat/\c.toNat<=57:=by
 induction u using Nat.strongRecOn with
 |_ u ih=>
  intro c hc;rw[OH] at hc;split at hc
  .rename_i h
   rw[I8.1 hc,xT h];omega
  .rename_i h
   rcases Jq.1 hc with hc|hc
   .exact ih (u/10) (by omega) c hc
   .rw[I8.1 hc,xT (by omega)]
    omega
theorem KS(u:Nat):OH u≠[]:=by
 rw[OH];split<;>simp
theorem KT{u:Nat}(hu:u<18446744073709551616):Lib.parseMag (OH u)=.ok u:=by
 unfold Lib.parseMag;rw[if_neg (KS u)];have:=SY u hu [];rw[JF] at this;rw[this];rfl
theorem Fc{n:Int}(h:fU n):Lib.atoiAll (Qt n)=.ok n:=by
 unfold Qt;obtain⟨h1,h2⟩:=h;split
 .rw[Lib.atoiAll_minus,KT (by omega)]
  unfold Lib.signed;simp only;rw[if_neg (by omega)];congr 1;omega
 .cases hd:OH n.toNat with
  |nil=>exact absurd hd (KS _)
  |cons c r=>
   have hc:=xU n.toNat c (by rw[hd];exact J2);rw[Lib.atoiAll_plain c r (by omega) (by omega),<- hd,KT (by omega)];unfold Lib.signless;simp only;rw[if_neg (by omega)];congr 1;omega
theorem Fe(n:Int):∀c∈Qt n,c≠59:=by
 intro c hc;unfold Qt at hc;split at hc
 .rcases IQ.1 hc with rfl|hc
  .decide
  .have:=xU _ c hc
   intro e;subst e
   have:(59:UInt8).toNat=59:=rfl
   omega
 .have:=xU _ c hc
  intro e;subst e
  have:(59:UInt8).toNat=59:=rfl
  omega
theorem Ra:∀(l r:List UInt8),(∀c∈l,c≠59)->Je (l++59::r) 59=(l.length:Int)
 |[],r,_=>by
  unfold Je;simp
 |x::l,r,h=>by
  have ih:=Ra l r (λc hc=>h c (J3 _ hc));have hx:=h x J2;rw[List.cons_append,Je,if_neg (by simpa using hx),ih,if_neg (by simp)];rw[Iw];omega
theorem DE(c:UInt8):∀{l:List UInt8} {i:Nat},Je l c=(i:Int)->l=l.take i++c::l.drop (i+1)
 |[],i,h=>by unfold Je at h;omega
 |x::r,i,h=>by
  unfold Je at h;split at h
  .rename_i hx
   have hi:i=0:=by omega
   subst hi
   have:x=c:=by simpa using hx
   rw[this];simp
  .split at h
   .omega
   .rename_i h2
    have hg:=QT r c
    obtain⟨j,rfl⟩:∃j,i=j+1:=⟨i-1,by have:Je r c ≠ -1:=by simpa using h2
                                    omega⟩
    have:=DE c (l:=r) (i:=j) (by omega);rw[List.take_succ_cons,List.drop_succ_cons,List.cons_append,<- this]
theorem dQ{n:Int}(h:fU n)(r:List UInt8):mP (fQ n++r)=AI (n,r):=by
 unfold mP fQ;rw[Io,OV,Ra _ r (Fe n),if_neg (by omega),JN,List.take_left,Fc h];simp only[if_true];congr 2;have e:Qt n++59::r=(Qt n++[59])++r:=by simp
 rw[e,List.drop_left' (by simp)]
theorem eT{l r:List UInt8}{n:Int}(h:mP l=AI (n,r)):l=fQ n++r/\fU n:=by
 have mI:=(dd h).1;unfold mP at h;split at h
 .simp at h
 rename_i aQ;obtain⟨i,hi⟩:∃i:Nat,Je l 59=(i:Int):=⟨(Je l 59).toNat,by have:=QT l 59;omega⟩;rw[hi] at h;simp only[JN] at h;split at h
 case h_2=>simp at h
 rename_i m hm;split at h
 case isFalse=>simp at h
 rename_i hd;simp only[It,IS] at h;obtain⟨rfl,rfl⟩:=h;refine⟨?_,mI⟩;unfold fQ;rw[hd,Io,OV];exact DE 59 hi
theorem kH{s:ByteArray}(h:s.size<=140737488355328)(r:List UInt8):zr (mF s++r)=AI (s,r):=by
 unfold zr mF;rw[Io,dQ ⟨by omega,by omega⟩];simp only;have hl:s.data.toList.length=s.size:=rfl;rw[if_pos ⟨by omega,by rw[Ig];omega⟩,JN,List.take_left' hl,List.drop_left' hl];rfl
theorem np{l r:List UInt8}{s:ByteArray}(h:zr l=AI (s,r)):l=mF s++r:=by
 unfold zr at h;split at h
 case h_2=>simp at h
 rename_i n r' hn;split at h
 case isFalse=>simp at h
 rename_i hk;simp only[It,IS] at h;obtain⟨rfl,rfl⟩:=h;have e:=(eT hn).1;unfold mF;rw[jI,List.length_take,Nat.min_eq_left (by omega),kZ,Io,List.take_append_drop,show((n.toNat:Nat):Int)=n by omega];exact e
theorem sU(y:Bool)(r:List UInt8):Ee (xh y++r)=AI (y,r):=by
 unfold Ee xh;rw[dQ (by split<;>exact⟨by omega,by omega⟩)];cases y<;>simp
theorem xV{l r:List UInt8}{y:Bool}(h:Ee l=AI (y,r)):l=xh y++r:=by
 unfold Ee at h;split at h
 case h_2=>simp at h
 rename_i n r' hn;have e:=(eT hn).1;unfold xh;split at h
 .rename_i h0
  simp only[It,IS] at h;obtain⟨rfl,rfl⟩:=h;rw[e,h0];simp
 .split at h
  .rename_i h1
   simp only[It,IS] at h;obtain⟨rfl,rfl⟩:=h;rw[e,h1];simp
  .simp at h
theorem KU{x y z u v:Int}(h1:fU x)(h2:fU y)(h3:fU z)(h4:fU u)(h5:fU v)(r:List UInt8):Me ([x,y,z,u,v].flatMap fQ++r)=AI ((x,y,z,u,v),r):=by
 unfold Me;simp only[I2,Ot,JF,Io,dQ h1,dQ h2,dQ h3,dQ h4,dQ h5,Jg]
theorem SZ{l r:List UInt8}{x y z u v:Int}(h:Me l=AI ((x,y,z,u,v),r)):l=[x,y,z,u,v].flatMap fQ++r:=by
 unfold Me at h;simp only[Ix,It,IS] at h;obtain⟨⟨x',r1⟩,n1,⟨y',r2⟩,n2,⟨z',r3⟩,n3,⟨u',r4⟩,n4,⟨v',r5⟩,n5,⟨rfl,rfl,rfl,rfl,rfl⟩,rfl⟩:=h;simp only at n1 n2 n3 n4 n5 ⊢;have e1:=(eT n1).1;have e2:=(eT n2).1;have e3:=(eT n3).1;have e4:=(eT n4).1;have e5:=(eT n5).1;simp only[I2,Ot,JF,Io];rw[e1,e2,e3,e4,e5]
theorem mi{m:Mem}(h:kE m)(r:List UInt8):ez (gU m++r)=AI (m,r):=by
 obtain⟨h0,h1,h2,h3⟩:=h;unfold ez gU;simp only[I2,Ot,JF,Io,kH (s:=m.name) (by omega),dQ h1,dQ h2,dQ h3,sU m.server,Jg]
theorem mj{l r:List UInt8}{m:Mem}(h:ez l=AI (m,r)):l=gU m++r:=by
 unfold ez at h;simp only[Ix,It,IS] at h;obtain⟨⟨x0,r1⟩,n0,⟨x1,r2⟩,n1,⟨x2,r3⟩,n2,⟨x3,r4⟩,n3,⟨x4,r5⟩,n4,rfl,rfl⟩:=h;simp only at n0 n1 n2 n3 n4 ⊢;have e0:=np n0;have e1:=(eT n1).1;have e2:=(eT n2).1;have e3:=(eT n3).1;have e4:=xV n4;unfold gU;simp only[I2,Ot,JF,Io];rw[e0,e1,e2,e3,e4]
theorem ib:∀(E:List Mem),(∀m∈E,kE m)->∀(D:List Mem) (r:List UInt8),dH E.length (E.flatMap gU++r) D=AI (D++E,r)
 |[],_,D,r=>by simp[dH]
 |m::E,h,D,r=>by
  rw[I2,Io,Iw,dH,mi (h m J2),Jg];simp only;rw[ib E (λx hx=>h x (J3 _ hx)) (D++[m]) r,Io];rfl
theorem ic:∀{n:Nat} {l r:List UInt8} {D E:List Mem},dH n l D=AI (E,r)->∃X:List Mem,X.length=n/\E=D++X/\l=X.flatMap gU++r
 |0,l,r,D,E,h=>by
  simp only[dH,It,IS] at h;obtain⟨rfl,rfl⟩:=h;exact⟨[],rfl,by simp,by simp⟩
 |n+1,l,r,D,E,h=>by
  obtain⟨⟨m,r'⟩,he,h⟩:=Ix.1 h;obtain⟨X,h1,h2,h3⟩:=ic h;exact⟨m::X,by simp[h1],by rw[h2];simp,by rw[mj he,show r'=_ from h3,I2,Io]⟩
theorem iM{E:List Mem}(hl:E.length<=1000)(h:∀m∈E,kE m)(r:List UInt8):bW (fQ E.length++E.flatMap gU++r)=AI (E,r):=by
 unfold bW;rw[Io,dQ ⟨by omega,by omega⟩,Jg];simp only;rw[if_pos (by omega),JN,ib E h [] r];rfl
theorem iN{l r:List UInt8}{E:List Mem}(h:bW l=AI (E,r)):l=fQ E.length++E.flatMap gU++r:=by
 unfold bW at h;rw[Ix] at h;obtain⟨⟨n,r1⟩,h1,h2⟩:=h;simp only at h2;split at h2
 .rename_i h0
  obtain⟨X,g1,g2,g3⟩:=ic h2;rw[Qu] at g2;subst g2;rw[(eT h1).1,g3,g1,show((n.toNat:Nat):Int)=n by omega,Io]
 .cases h2
namespace Sv
theorem mi{m:aY}(h:kE m)(r:List UInt8):ez (gU m++r)=AI (m,r):=by
 obtain⟨h0,h1,h2,h3,h4,h5,h6⟩:=h;unfold ez gU;simp only[I2,Ot,JF,Io,kH (s:=m.node) (by omega),kH (s:=m.bP) (by omega),kH (s:=m.name) (by omega),kH (s:=m.tag) (by omega),dQ h4,dQ h5,sU m.an,dQ h6,sU m.gone,Jg]
theorem mj{l r:List UInt8}{m:aY}(h:ez l=AI (m,r)):l=gU m++r:=by
 unfold ez at h;simp only[Ix,It,IS] at h;obtain⟨⟨x0,r1⟩,n0,⟨x1,r2⟩,n1,⟨x2,r3⟩,n2,⟨x3,r4⟩,n3,⟨x4,r5⟩,n4,⟨x5,r6⟩,n5,⟨x6,r7⟩,n6,⟨x7,r8⟩,n7,⟨x8,r9⟩,n8,rfl,rfl⟩:=h;simp only at n0 n1 n2 n3 n4 n5 n6 n7 n8 ⊢;have e0:=np n0;have e1:=np n1;have e2:=np n2;have e3:=np n3;have e4:=(eT n4).1;have e5:=(eT n5).1;have e6:=xV n6;have e7:=(eT n7).1;have e8:=xV n8;unfold gU;simp only[I2,Ot,JF,Io];rw[e0,e1,e2,e3,e4,e5,e6,e7,e8]
theorem ib:∀(E:List aY),(∀m∈E,kE m)->∀(D:List aY) (r:List UInt8),dH E.length (E.flatMap gU++r) D=AI (D++E,r)
 |[],_,D,r=>by simp[dH]
 |m::E,h,D,r=>by
  rw[I2,Io,Iw,dH,mi (h m J2),Jg];simp only;rw[ib E (λx hx=>h x (J3 _ hx)) (D++[m]) r,Io];rfl
theorem ic:∀{n:Nat} {l r:List UInt8} {D E:List aY},dH n l D=AI (E,r)->∃X:List aY,X.length=n/\E=D++X/\l=X.flatMap gU++r
 |0,l,r,D,E,h=>by
  simp only[dH,It,IS] at h;obtain⟨rfl,rfl⟩:=h;exact⟨[],rfl,by simp,by simp⟩
 |n+1,l,r,D,E,h=>by
  obtain⟨⟨m,r'⟩,he,h⟩:=Ix.1 h;obtain⟨X,h1,h2,h3⟩:=ic h;exact⟨m::X,by simp[h1],by rw[h2];simp,by rw[mj he,show r'=_ from h3,I2,Io]⟩
theorem iM{E:List aY}(hl:E.length<=1000)(h:∀m∈E,kE m)(r:List UInt8):bW (fQ E.length++E.flatMap gU++r)=AI (E,r):=by
 unfold bW;rw[Io,dQ ⟨by omega,by omega⟩,Jg];simp only;rw[if_pos (by omega),JN,ib E h [] r];rfl
theorem iN{l r:List UInt8}{E:List aY}(h:bW l=AI (E,r)):l=fQ E.length++E.flatMap gU++r:=by
 unfold bW at h;rw[Ix] at h;obtain⟨⟨n,r1⟩,h1,h2⟩:=h;simp only at h2;split at h2
 .rename_i h0
  obtain⟨X,g1,g2,g3⟩:=ic h2;rw[Qu] at g2;subst g2;rw[(eT h1).1,g3,g1,show((n.toNat:Nat):Int)=n by omega,Io]
 .cases h2
end Sv
namespace Gw
theorem mi{m:bL}(h:kE m)(r:List UInt8):ez (gU m++r)=AI (m,r):=by
 obtain⟨h0,h1,h2⟩:=h;unfold ez gU;simp only[I2,Ot,JF,Io,kH (s:=m.aD) (by omega),dQ h1,dQ h2,Jg]
theorem mj{l r:List UInt8}{m:bL}(h:ez l=AI (m,r)):l=gU m++r:=by
 unfold ez at h;simp only[Ix,It,IS] at h;obtain⟨⟨x0,r1⟩,n0,⟨x1,r2⟩,n1,⟨x2,r3⟩,n2,rfl,rfl⟩:=h;simp only at n0 n1 n2 ⊢;have e0:=np n0;have e1:=(eT n1).1;have e2:=(eT n2).1;unfold gU;simp only[I2,Ot,JF,Io];rw[e0,e1,e2]
theorem ib:∀(E:List bL),(∀m∈E,kE m)->∀(D:List bL) (r:List UInt8),dH E.length (E.flatMap gU++r) D=AI (D++E,r)
 |[],_,D,r=>by simp[dH]
 |m::E,h,D,r=>by
  rw[I2,Io,Iw,dH,mi (h m J2),Jg];simp only;rw[ib E (λx hx=>h x (J3 _ hx)) (D++[m]) r,Io];rfl
theorem ic:∀{n:Nat} {l r:List UInt8} {D E:List bL},dH n l D=AI (E,r)->∃X:List bL,X.length=n/\E=D++X/\l=X.flatMap gU++r
 |0,l,r,D,E,h=>by
  simp only[dH,It,IS] at h;obtain⟨rfl,rfl⟩:=h;exact⟨[],rfl,by simp,by simp⟩
 |n+1,l,r,D,E,h=>by
  obtain⟨⟨m,r'⟩,he,h⟩:=Ix.1 h;obtain⟨X,h1,h2,h3⟩:=ic h;exact⟨m::X,by simp[h1],by rw[h2];simp,by rw[mj he,show r'=_ from h3,I2,Io]⟩
theorem iM{E:List bL}(hl:E.length<=1000)(h:∀m∈E,kE m)(r:List UInt8):bW (fQ E.length++E.flatMap gU++r)=AI (E,r):=by
 unfold bW;rw[Io,dQ ⟨by omega,by omega⟩,Jg];simp only;rw[if_pos (by omega),JN,ib E h [] r];rfl
theorem iN{l r:List UInt8}{E:List bL}(h:bW l=AI (E,r)):l=fQ E.length++E.flatMap gU++r:=by
 unfold bW at h;rw[Ix] at h;obtain⟨⟨n,r1⟩,h1,h2⟩:=h;simp only at h2;split at h2
 .rename_i h0
  obtain⟨X,g1,g2,g3⟩:=ic h2;rw[Qu] at g2;subst g2;rw[(eT h1).1,g3,g1,show((n.toNat:Nat):Int)=n by omega,Io]
 .cases h2
end Gw
namespace Wh
theorem mi{m:bK}(h:kE m)(r:List UInt8):ez (gU m++r)=AI (m,r):=by
 obtain⟨h0,h1,h2,h3,h4,h5⟩:=h;unfold ez gU;rw[Io,kH (s:=m.node) (by omega),Jg];simp only;rw[KU h1 h2 h3 h4 h5,Jg]
theorem mj{l r:List UInt8}{m:bK}(h:ez l=AI (m,r)):l=gU m++r:=by
 unfold ez at h;simp only[Ix,It,IS] at h;obtain⟨⟨x0,r1⟩,n0,⟨⟨x1,x2,x3,x4,x5⟩,r2⟩,n1,rfl,rfl⟩:=h;simp only at n0 n1 ⊢;unfold gU;rw[np n0,SZ n1,Io]
theorem ib:∀(E:List bK),(∀m∈E,kE m)->∀(D:List bK) (r:List UInt8),dH E.length (E.flatMap gU++r) D=AI (D++E,r)
 |[],_,D,r=>by simp[dH]
 |m::E,h,D,r=>by
  rw[I2,Io,Iw,dH,mi (h m J2),Jg];simp only;rw[ib E (λx hx=>h x (J3 _ hx)) (D++[m]) r,Io];rfl
theorem ic:∀{n:Nat} {l r:List UInt8} {D E:List bK},dH n l D=AI (E,r)->∃X:List bK,X.length=n/\E=D++X/\l=X.flatMap gU++r
 |0,l,r,D,E,h=>by
  simp only[dH,It,IS] at h;obtain⟨rfl,rfl⟩:=h;exact⟨[],rfl,by simp,by simp⟩
 |n+1,l,r,D,E,h=>by
  obtain⟨⟨m,r'⟩,he,h⟩:=Ix.1 h;obtain⟨X,h1,h2,h3⟩:=ic h;exact⟨m::X,by simp[h1],by rw[h2];simp,by rw[mj he,show r'=_ from h3,I2,Io]⟩
theorem iM{E:List bK}(hl:E.length<=1000)(h:∀m∈E,kE m)(r:List UInt8):bW (fQ E.length++E.flatMap gU++r)=AI (E,r):=by
 unfold bW;rw[Io,dQ ⟨by omega,by omega⟩,Jg];simp only;rw[if_pos (by omega),JN,ib E h [] r];rfl
theorem iN{l r:List UInt8}{E:List bK}(h:bW l=AI (E,r)):l=fQ E.length++E.flatMap gU++r:=by
 unfold bW at h;rw[Ix] at h;obtain⟨⟨n,r1⟩,h1,h2⟩:=h;simp only at h2;split at h2
 .rename_i h0
  obtain⟨X,g1,g2,g3⟩:=ic h2;rw[Qu] at g2;subst g2;rw[(eT h1).1,g3,g1,show((n.toNat:Nat):Int)=n by omega,Io]
 .cases h2
end Wh
theorem S5{p:Pk}(h:p.VR)(r:List UInt8):vy (p.B++r)=AI (p,r):=by
 unfold vy Pk.B;rw[Io,Io,Io,Io,Io,kH (by have:=h.cV;omega),Jg];simp only;rw[sU,Jg];simp only;rw[iM (by have:=h.ms.1;omega) h.ms.2,Jg];simp only;rw[Sv.iM (by have:=h.sv.1;omega) h.sv.2,Jg];simp only;rw[Gw.iM (by have:=h.gw.1;omega) h.gw.2,Jg];simp only;rw[Wh.iM (by have:=h.wh.1;omega) h.wh.2,Jg]
theorem DF{l r:List UInt8}{p:Pk}(h:vy l=AI (p,r)):l=p.B++r:=by
 unfold vy at h;simp only[Ix,It,IS] at h;obtain⟨⟨x0,r1⟩,n0,⟨x1,r2⟩,n1,⟨x2,r3⟩,n2,⟨x3,r4⟩,n3,⟨x4,r5⟩,n4,⟨x5,r6⟩,n5,rfl,rfl⟩:=h;simp only at n0 n1 n2 n3 n4 n5 ⊢;have e0:=np n0;have e1:=xV n1;have e2:=iN n2;have e3:=Sv.iN n3;have e4:=Gw.iN n4;have e5:=Wh.iN n5;unfold Pk.B;simp only[Io] at e2 e3 e4 e5 ⊢;rw[e0,e1,e2,e3,e4,e5]
def uO(l:List UInt8):Option Pk:=(vy l).bind λa=>if a.2=[]/\a.1.e=0 then AI a.1 else be
theorem ko{l:List UInt8}{p:Pk}:uO l=AI p↔l=p.B/\p.e=0:=by
 unfold uO;rw[Ix];constructor
 .rintro⟨⟨q,r⟩,h1,h2⟩
  simp only at h2;split at h2
  .rename_i h3
   simp only[It] at h2;subst h2;have:=DF h1;rw[h3.1,JF] at this;exact⟨this,h3.2⟩
  .cases h2
 .rintro⟨rfl,he⟩
  have:=S5 (oG he) [];rw[JF] at this;exact⟨(p,[]),this,by simp[he]⟩
structure Nt where
 ns:List Nd
 ls:List Lt.fg
def bC:Nd:=⟨⟨#[]⟩,⟨#[]⟩,[],[],[],[],⟨0,0,0,0,0⟩,[]⟩
def ie(ns:List Nd):Prop:=∀i j,i<j->j<ns.length->(ns.getD i bC).name≠(ns.getD j bC).name
def apN(ns:List Nd):Bool:=(Jx ns.length).all λj=>(Jx j).all λi=>decide ((ns.getD i bC).name≠(ns.getD j bC).name)
theorem xW(ns:List Nd):apN ns=true↔ie ns:=by
 simp only[apN,List.all_eq_true,List.mem_range,decide_eq_true_eq];exact⟨λh i j iS hj=>h j hj i iS,λh j hj i iS=>h i j iS hj⟩
def oh{α:Type}(f:α->Int):List α->Int
 |[]=>0
 |x::r=>if f x=0 then oh f r else f x
theorem xX{α:Type}(f:α->Int)(d:α):∀(l:List α) (k:Nat),k<l.length->(∀j,j<k->f (l.getD j d)=0)->f (l.getD k d)≠0->oh f l=f (l.getD k d)
 |[],k,hk,_,_=>by simp at hk
 |x::r,0,_,_,aQ=>by
  have:f x≠0:=by simpa using aQ
  simp only[oh];rw[if_neg this];simp
 |x::r,k+1,hk,hz,aQ=>by
  have h0:f x=0:=by simpa using hz 0 (by omega)
  simp only[oh];rw[if_pos h0,xX f d r k (by simpa using hk) (λj hj=>by simpa using hz (j+1) (by omega)) (by simpa using aQ)];simp
theorem nR{α:Type}(f:α->Int)(d:α):∀(l:List α),(∀j,j<l.length->f (l.getD j d)=0)->oh f l=0
 |[],_=>rfl
 |x::r,h=>by
  have h0:f x=0:=by simpa using h 0 (by simp)
  simp only[oh];rw[if_pos h0];exact nR f d r (λj hj=>by simpa using h (j+1) (by simpa using hj))
theorem uf{α:Type}(f:α->Int):∀{l:List α},oh f l=0->∀x∈l,f x=0
 |y::r,h,x,hx=>by
  simp only[oh] at h;split at h
  .rename_i h0
   rcases IQ.1 hx with rfl|hx
   .exact h0
   .exact uf f h x hx
  .rename_i h0;exact absurd h h0
def vE(k:Nat)(l:Lt.fg):Int:=if within l.to 0 ((k:Int)-1)=true then(if(uO l.text.data.toList).isSome=true then 0 else 1) else 3
def kD(ns:List Nd):Int:=if oh Nd.e ns=0 then(if apN ns=true then 0 else 6) else oh Nd.e ns
def Nt.e(t:Nt):Int:=if 6<t.ns.length\/20<t.ls.length then 2 else if kD t.ns=0 then oh (vE t.ns.length) t.ls else kD t.ns
theorem S6{ns:List Nd}{k:Nat}(hk:k<ns.length)(hz:∀j,j<k->(ns.getD j bC).e=0)(aQ:(ns.getD k bC).e≠0):kD ns=(ns.getD k bC).e:=by
 have h:=xX Nd.e bC ns k hk hz aQ;rw[kD,h,if_neg aQ]
theorem Ce{ns:List Nd}(hz:∀j,j<ns.length->(ns.getD j bC).e=0)(hd:¬ ie ns):kD ns=6:=by
 rw[kD,if_pos (nR _ bC ns hz),if_neg (λh=>hd ((xW ns).1 h))]
theorem DG{ns:List Nd}(hz:∀j,j<ns.length->(ns.getD j bC).e=0)(hd:ie ns):kD ns=0:=by
 rw[kD,if_pos (nR _ bC ns hz),if_pos ((xW ns).2 hd)]
def vF(w:World)(b off:Nat)(ns:List Nd):Prop:=∀j,j<ns.length->∃vm vr vs vg vw,eY w (ns.getD j bC) vm vr vs vg vw/\∀i,i<12->w.cell? ⟨b,off+j*12+i,be⟩=(dv (ns.getD j bC) vm vr vs vg vw)[i]?
theorem vF.below{w w':World}{b off:Nat}{ns:List Nd}(h:vF w b off ns)(hb:Below w.heap.size w w')(hl:b<w.heap.size):vF w' b off ns:=λj hj=>by
 obtain⟨vm,vr,vs,vg,vw,h1,h2⟩:=h j hj;exact⟨vm,vr,vs,vg,vw,h1.below hb,λi hi=>(hb.cell (p:=⟨b,off+j*12+i,be⟩) hl).trans (h2 i hi)⟩
def xY(w:World)(v:Value)(ns:List Nd):Prop:=∃(a:Option Addr) (cap:Nat),v=J a ns.length cap/\(ns=[]\/∃b off,a=AI ⟨b,off,be⟩/\b<w.heap.size/\vF w b off ns)
theorem xY.below{w w':World}{v:Value}{ns:List Nd}(h:xY w v ns)(hb:Below w.heap.size w w'):xY w' v ns:=by
 obtain⟨a,cap,rfl,h⟩:=h;refine⟨a,cap,rfl,?_⟩;rcases h with h|⟨b,off,rfl,hl,hr⟩
 .exact .inl h
 .exact .inr ⟨b,off,rfl,IL hl hb.size,hr.below hb hl⟩
theorem vF.at{w:World}{b off k:Nat}{ns:List Nd}(h:vF w b off ns)(hk:k<ns.length):∃vm vr vs vg vw,eY w (ns.getD k bC) vm vr vs vg vw/\w.cell? ⟨b,off+k*12,be⟩=AI (Y (ns.getD k bC).name)/\w.cell? ⟨b,off+k*12+1,be⟩=AI (Y (ns.getD k bC).aD)/\w.cell? ⟨b,off+k*12+2,be⟩=AI vm/\w.cell? ⟨b,off+k*12+3,be⟩=AI vr/\w.cell? ⟨b,off+k*12+4,be⟩=AI vs/\w.cell? ⟨b,off+k*12+5,be⟩=AI vg/\w.cell? ⟨b,off+k*12+6,be⟩=AI (U O (ns.getD k bC).p.x)/\w.cell? ⟨b,off+k*12+7,be⟩=AI (U O (ns.getD k bC).p.y)/\w.cell? ⟨b,off+k*12+8,be⟩=AI (U O (ns.getD k bC).p.z)/\w.cell? ⟨b,off+k*12+9,be⟩=AI (U O (ns.getD k bC).p.h)/\w.cell? ⟨b,off+k*12+10,be⟩=AI (U O (ns.getD k bC).p.s)/\w.cell? ⟨b,off+k*12+11,be⟩=AI vw:=by
 obtain⟨vm,vr,vs,vg,vw,h1,h2⟩:=h k hk;exact⟨vm,vr,vs,vg,vw,h1,h2 0 (by omega),h2 1 (by omega),h2 2 (by omega),h2 3 (by omega),h2 4 (by omega),h2 5 (by omega),h2 6 (by omega),h2 7 (by omega),h2 8 (by omega),h2 9 (by omega),h2 10 (by omega),h2 11 (by omega)⟩
theorem Rp.aC{g:Nat}{w w1:World}(h:Rp g w w1)(L:List Value):Rp g w (aC g L 0 w1):=by
 obtain⟨h1,h2,h3⟩:=ri g L 0 w1;exact⟨h1.trans h.os,h2.trans h.tape,h3.trans h.output,by rw[fw];exact h.size,λk hk hg=>(aV hg L 0 w1).trans (h.block k hk hg)⟩
theorem nS{base n k:Nat}{T:TypeId}{w:World}{v:Value}{xs:List Value}(h:w.ownsRow base T k v n xs):Roomy v:=by
 rcases h.2 with⟨rfl,h0⟩|⟨g,c,cur,rfl,eD,hg,fP,dR,cf,bj⟩
 .unfold Roomy;exact Ic _
 .unfold Roomy;exact fP
theorem gK.mono{a b:Nat}{w:World}{p:Pk}{vm vs vg vw:Value}(h:gK b w p vm vs vg vw)(Ek:a<=b):gK a w p vm vs vg vw:=⟨h.ms.mono Ek,h.sv.mono Ek,h.gw.mono Ek,h.wh.mono Ek⟩
theorem Nu{l r:List UInt8}{p:Pk}(h:vy l=AI (p,r))(hl:l.length<=16777216):p.cV.size<=Il/\(∀m∈p.ms,m.name.size<=Il)/\(∀m∈p.sv,m.node.size<=Il/\m.bP.size<=Il/\m.name.size<=Il/\m.tag.size<=Il)/\(∀m∈p.gw,m.aD.size<=Il)/\(∀m∈p.wh,m.node.size<=Il):=by
 unfold vy at h;simp only[Ix,It,IS] at h;obtain⟨⟨x0,r1⟩,n0,⟨x1,r2⟩,n1,⟨x2,r3⟩,n2,⟨x3,r4⟩,n3,⟨x4,r5⟩,n4,⟨x5,r6⟩,n5,rfl,rfl⟩:=h;simp only at n0 n1 n2 n3 n4 n5 ⊢;have e0:=kO n0;have e1:=rh n1;have e2:=eG n2 (by omega);have e3:=Sv.eG n3 (by omega);have e4:=Gw.eG n4 (by omega);have e5:=Wh.eG n5 (by omega);refine⟨by unfold Il;omega,e2.1,e3.1,e4.1,e5.1⟩
theorem WO{l r:List UInt8}{p:Pk}(h:vy l=AI (p,r))(hl:l.length<=16777216):p.sv.length+p.gw.length+p.wh.length<=16777216:=by
 have e:=DF h;have hS:∀m:Sv.aY,1<=(Sv.gU m).length:=λm=>by unfold Sv.gU mF fQ;simp only[Ig,Ob];omega
 have hG:∀m:Gw.bL,1<=(Gw.gU m).length:=λm=>by unfold Gw.gU mF fQ;simp only[Ig,Ob];omega
 have hW:∀m:Wh.bK,1<=(Wh.gU m).length:=λm=>by unfold Wh.gU mF fQ;simp only[Ig,Ob];omega
 have fl:∀{α:Type} (f:α->List UInt8),(∀m,1<=(f m).length)->∀L:List α,L.length<=(L.flatMap f).length:=λf hf L=>by
  induction L with
  |nil=>simp
  |cons m L ih=>rw[I2,Ig,Iw];have:=hf m;omega
 have h1:=fl Sv.gU hS p.sv;have h2:=fl Gw.gU hG p.gw;have h3:=fl Wh.gU hW p.wh;have h4:=congrArg List.length e;unfold Pk.B at h4;simp only[Ig] at h4;omega
theorem Nv{B cs cp:Nat}{l:List UInt8}{p:Pk}{w:World}(hV:Rv B w)(hs:l.length<=16777216)(cf:w.cell? ⟨cs,0,be⟩=AI (Y (fM l)))(Cf:w.heap[cp]?=AI (By #[Y ⟨#[]⟩,Ia false,J be 0 0,J be 0 0,J be 0 0,J be 0 0] 53 (0,0)))(hn:uO l=AI p) :
 Calls AS 116 #[Ie (AI ⟨cs,0,be⟩),Ie (AI ⟨cp,0,be⟩)] w λe w'=>e=AT (Ik #[])/\Rp cp w w'/\∃vm vs vg vw,w'.heap[cp]?=AI (By #[Y p.cV,Ia p.whole,vm,vs,vg,vw] 53 (0,0))/\gK (w.heap.size+1) w' p vm vs vg vw:=by
 unfold uO at hn;obtain⟨⟨p',r⟩,hn,he⟩:=Ix.1 hn;simp only at he;split at he
 case isFalse=>cases he
 rename_i hre;obtain⟨rfl,DA⟩:=hre;cases he
 have aeT:=(BY.1 Cf).1;obtain⟨W0,bN,bO,eK,dI⟩:=bY w #[Y (fM l)] 160;have RS:kF w.heap.size l W0:=⟨ae dI 0,by simp[Is,dI],by omega⟩;have WQ:Hid (Calls _ _ _ _ _):=Km (hV.below (bO.mono hV.le)) hV.le RS hs hn;have sr:Hid _:=eK;have Ff:Hid (∀W,Rp w.heap.size W0 W->W.heap[cp]?=AI (By #[Y ⟨#[]⟩,Ia false,J be 0 0,J be 0 0,J be 0 0,J be 0 0] 53 (0,0))):=λW hW=>hW.kP (by omega) ((bO.block cp aeT).trans Cf);have HIN:Hid _:=Nu hn hs;have HIL:Hid _:=WO hn hs;have Cg:Hid (Rp cp w W0):=Rp.cj bO (Ic _);have HPE:Hid _:=DA;clear hV hs Cf bO dI eK RS hn DA;go_enter Tryz.func116,Tryz.ntmps116;go_wp2_with fail;rw[<- bN];clear bN cf;refine WQ.out.mono ?_;rintro e w1 ⟨vm,vs,vg,vw,rfl,hr,ho,hp⟩;obtain⟨Mc,gR⟩:=HIN.out;have hlen:=HIL.out;obtain⟨a2,l2,c2,rfl⟩:=bo ho.ms;obtain⟨a3,l3,c3,rfl⟩:=bo ho.sv;obtain⟨a4,l4,c4,rfl⟩:=bo ho.gw;obtain⟨a5,l5,c5,rfl⟩:=bo ho.wh;have jn:=Ff.out w1 hr;have nN:Rp cp w w1:=⟨hr.os.trans Cg.out.os,hr.tape.trans Cg.out.tape,hr.output.trans Cg.out.output,Ir Cg.out.size hr.size,λk hk hkc=>(hr.block k (IL hk Cg.out.size) (by omega)).trans (Cg.out.block k hk hkc)⟩;obtain⟨w2,tl⟩:∃w2,w2=aC cp [Y p.cV,Ia p.whole,J a2 l2 c2,J a3 l3 c3,J a4 l4 c4,J a5 l5 c5] 0 w1:=⟨_,rfl⟩;have jJ:w2.heap[cp]?=AI (By #[Y p.cV,Ia p.whole,J a2 l2 c2,J a3 l3 c3,J a4 l4 c4,J a5 l5 c5] 53 (0,0)):=by rw[tl];exact pX jn _ _ _ _ _ _
 have rJ:Rp cp w w2:=by rw[tl];exact nN.aC _
 have rj:∀b,b≠cp->w2.heap[b]?=w1.heap[b]?:=λb hb=>by rw[tl];exact aV hb _ _ _
 have nW:w2.heap.size=w1.heap.size:=by rw[tl];exact fw _ _ _ _
 have fK:gK (w.heap.size+1) w2 p (J a2 l2 c2) (J a3 l3 c3) (J a4 l4 c4) (J a5 l5 c5):=(ho.mono (by have:=sr.out;omega)).fi (λb hb _=>rj b (by omega));have his:kz w2 p (J a2 l2 c2) (J a3 l3 c3) (J a4 l4 c4) (J a5 l5 c5):=⟨bF fK.ms gR.1,Sv.bF fK.sv gR.2.1,Gw.bF fK.gw gR.2.2.1,Wh.bF fK.wh gR.2.2.2,Mc,nS fK.ms⟩;have oq:Hid (Calls AS 62 #[Ij #[Y p.cV,Ia p.whole,J a2 l2 c2,J a3 l3 c3,J a4 l4 c4,J a5 l5 c5]] w2 λe w'=>e=AT (U O 0)/\Below w2.heap.size w2 w'):=(lR p _ _ _ _ w2 his (.inr (by omega))).mono (λe w' h=>⟨by rw[<- HPE.out];exact h.1,h.2⟩);have d2:w2.cell? ⟨w.heap.size,0,be⟩=AI (Y ⟨#[]⟩):=(cell_of (rj _ (by omega)) 0).trans hp.c0;have GA:Hid (Rp cp w w2):=rJ;have pM:Hid _:=jJ;have iq:Hid (gK (w.heap.size+1) w2 p (J a2 l2 c2) (J a3 l3 c3) (J a4 l4 c4) (J a5 l5 c5)):=fK;have aeU:Hid (∀w3,Below w2.heap.size w2 w3->Rp cp w w3/\∃vm vs vg vw,w3.heap[cp]?=AI (By #[Y p.cV,Ia p.whole,vm,vs,vg,vw] 53 (0,0))/\gK (w.heap.size+1) w3 p vm vs vg vw):=λw3 hb=>
  ⟨GA.out.trans (Rp.cj hb (Ic _)),_,_,_,_,(hb.block cp (BY.1 pM.out).1).trans pM.out,iq.out.fi (λb _ aR=>hb.block b aR)⟩
 obtain⟨b0,b1,b2,b3,b4,b5⟩:=jE jn;have z:=lZ jn;obtain⟨f0,f1,f2,f3,f4,f5⟩:=jE jJ;clear hr hp ho WQ HIN HIL Ff sr Mc gR hlen jn nN jJ rJ rj nW fK his GA pM iq Cg HPE;go_upto_region 2 with fail
 simp only[aC,IC,Jf] at tl;rw[<- tl];clear tl b0 b1 b2 b3 b4 b5 z;go_wp2_with fail;refine oq.out.mono ?_;rintro e w3 ⟨rfl,bX⟩;have DB:Hid _:=aeU.out w3 bX;clear bX;go_wp2_with fail;refine(jB _ _).mono ?_;rintro e w4 ⟨rfl,M1⟩;subst M1;go_wp2_with fail;simp only[bodyPost,results,Tryz.results116];exact⟨trivial,Ik #[],by simp,rfl,DB.out⟩
def uh(w:World)(p:Pk)(e:Ending)(w':World):Prop:=
 Below w.heap.size w w'/\∃vm vs vg vw,e=AT (Ik #[Ij #[Y p.cV,Ia p.whole,vm,vs,vg,vw],U O 0])/\gK w.heap.size w' p vm vs vg vw
theorem DH{B:Nat}{l:List UInt8}{p:Pk}{w:World}(hV:Rv B w)(hs:l.length<=16777216)(hn:uO l=AI p) :
 aI 69 #[Y (fM l)] w (uh w p):=by
 have hmf:∀(fn:Fn) (first cap:Array Value) (w:World),(Instr.makeFunc fn first cap).run AS w=.ok (.func fn first cap) w:=λ_ _ _ _=>rfl;have ef:=enters_of Tryz.func116 (by kernel_rfl) rfl;obtain⟨W0,bN,bO,eK,k0,k1,k2⟩:=oQ w #[Y (fM l)] #[Y ⟨#[]⟩,Ia false,J be 0 0,J be 0 0,J be 0 0,J be 0 0] #[Y ⟨#[]⟩,Ia false,J be 0 0,J be 0 0,J be 0 0,J be 0 0] 9 53 53;obtain⟨W1,cT,aB,vt,ke⟩:=bY W0 #[U O 0] 31;have ft:W1.heap.size=w.heap.size+4:=by omega
 have Rb:Hid (aI _ _ _ _):=
  Nv (hV.below ((bO.mono hV.le).trans (aB.mono (by have:=hV.le;omega)))) hs ((aB.cell (p:=⟨w.heap.size,0,be⟩) (by show w.heap.size<W0.heap.size;omega)).trans (ae k0 0)) ((aB.block _ (by omega)).trans k2) hn
 have HE:Hid (∀w',Rp (w.heap.size+2) W1 w'->w'.cell? ⟨W0.heap.size,0,be⟩=AI (U O 0)/\w'.frozen? ⟨W0.heap.size,0,be⟩=false/\W0.heap.size<w'.heap.size):=λw' hr=>by
  have e:=hr.kP (k:=W0.heap.size) (by omega) ke;exact⟨ae e 0,by simp[Is,e],(BY.1 e).1⟩
 have lD:Hid (∀w',Rp (w.heap.size+2) W1 w'->w'.heap[w.heap.size+1]?=AI (By #[Y ⟨#[]⟩,Ia false,J be 0 0,J be 0 0,J be 0 0,J be 0 0] 53 (0,0))):=λw' hr=>hr.kP (by omega) ((aB.block _ (by omega)).trans k1);have qN:Hid (∀w',Rp (w.heap.size+2) W1 w'->Below w.heap.size w w'):=λw' hr=>(bO.trans (aB.mono (by omega))).trans (hr.below (B:=w.heap.size) (by omega) (by omega));have sr:Hid _:=eK;have tR:Hid _:=ft;clear hV hs bO aB k0 k1 k2 ke eK ft vt hn;have gj:Hid (aI 119 #[.func (.func 116) #[] #[Ie (AI ⟨w.heap.size,0,be⟩),Ie (AI ⟨w.heap.size+2,0,be⟩)]] W0 λr w'=>r=AT (U O 0)/\∃w1,(Rp (w.heap.size+2) W1 w1/\∃vm vs vg vw,w1.heap[w.heap.size+2]?=AI (By #[Y p.cV,Ia p.whole,vm,vs,vg,vw] 53 (0,0))/\gK (W1.heap.size+1) w1 p vm vs vg vw)/\W0.heap.size<w1.heap.size/\w'=w1.setCell ⟨W0.heap.size,0,be⟩ (U O 0)):=
  Ba _ _ W0 (λw1=>Rp (w.heap.size+2) W1 w1/\∃vm vs vg vw,w1.heap[w.heap.size+2]?=AI (By #[Y p.cV,Ia p.whole,vm,vs,vg,vw] 53 (0,0))/\gK (W1.heap.size+1) w1 p vm vs vg vw) ef (by
   rw[<- cT];refine Rb.out.mono ?_;rintro e w' ⟨rfl,hr,vm,vs,vg,vw,h1,h2⟩;exact⟨rfl,⟨hr,vm,vs,vg,vw,h1,h2⟩,HE.out w' hr⟩)
 clear Rb cT;go_enter Tryz.func69,Tryz.ntmps69;go_wp2_with fail;rw[<- bN];clear bN;refine gj.out.mono ?_;rintro e w2 ⟨rfl,w1,⟨hr,vm,vs,vg,vw,h1,h2⟩,aX,tl⟩;obtain⟨a2,l2,c2,rfl⟩:=bo h2.ms;obtain⟨a3,l3,c3,rfl⟩:=bo h2.sv;obtain⟨a4,l4,c4,rfl⟩:=bo h2.gw;obtain⟨a5,l5,c5,rfl⟩:=bo h2.wh;have eA:∀k,k≠W0.heap.size->w2.heap[k]?=w1.heap[k]?:=λk hk=>by rw[tl];exact Below.heap_setCell _ _ _ k hk
 have jn:=(eA _ (by have:=sr.out;omega)).trans (lD.out w1 hr);have jJ:=(eA _ (by have:=sr.out;omega)).trans h1;have fK:=h2.fi (λb hb _=>eA b (by have:=sr.out;have:=tR.out;omega));have A5:Below w.heap.size w w2:=by
  have h:=qN.out w1 hr;rw[tl];exact h.setCell (p:=⟨W0.heap.size,0,be⟩) (by have:=sr.out;show w.heap.size<=W0.heap.size;omega) _
 obtain⟨w3,Rc⟩:∃w3,w3=aC (w.heap.size+1) [Y p.cV,Ia p.whole,J a2 l2 c2,J a3 l3 c3,J a4 l4 c4,J a5 l5 c5] 0 w2:=⟨_,rfl⟩;have jY:w3.heap[w.heap.size+1]?=AI (By #[Y p.cV,Ia p.whole,J a2 l2 c2,J a3 l3 c3,J a4 l4 c4,J a5 l5 c5] 53 (0,0)):=by rw[Rc];exact pX jn _ _ _ _ _ _
 have ec:Hid (gK w.heap.size w3 p (J a2 l2 c2) (J a3 l3 c3) (J a4 l4 c4) (J a5 l5 c5)):=(fK.fi (λb hb _=>by rw[Rc];exact aV (by have:=tR.out;omega) _ _ _)).mono (by have:=tR.out;omega);have cJ:Hid (Below w.heap.size w w3):=by rw[Rc];exact aT (by omega) _ _ A5
 obtain⟨b0,b1,b2,b3,b4,b5⟩:=jE jn;have z:=lZ jn;obtain⟨f0,f1,f2,f3,f4,f5⟩:=jE jJ;obtain⟨g0,g1,g2,g3,g4,g5⟩:=jE jY;have gZ:Hid (uh w p (AT (Ik #[Ij #[Y p.cV,Ia p.whole,J a2 l2 c2,J a3 l3 c3,J a4 l4 c4,J a5 l5 c5],U O 0])) w3):=⟨cJ.out,_,_,_,_,rfl,ec.out⟩;clear ec cJ gj jn jJ jY fK A5 eA h1 h2 hr aX tl HE lD qN sr tR;generalize hRS:uh w p=Z at *;clear hRS;generalize p.cV=q0 at *;generalize p.whole=q1 at *;go_wp2_with fail;simp only[aC,IC,Jf] at Rc;rw[<- Rc];clear Rc b0 b1 b2 b3 b4 b5 z f0 f1 f2 f3 f4 f5;exact IK (v:=Ik #[Ij #[Y q0,Ia q1,J a2 l2 c2,J a3 l3 c3,J a4 l4 c4,J a5 l5 c5],U O 0]) (by simp[results,Tryz.results69,go_sem,g0,g1,g2,g3,g4,g5]) rfl gZ.out
end Go.Proofs.YtfidhgjmifendaaGreatDoor
namespace Go.Proofs.YtfidhgjmifendaaGreatDoor
open Go.RowKit Go.WideMaps Go.Maps
def nq(ns:List Nd):List ByteArray:=ns.map (·.name)
theorem iO(ns:List Nd)(k:Nat):(nq ns).getD k ByteArray.empty=(ns.getD k bC).name:=by
 by_cases h:k<ns.length
 .simp[nq,Ip,If h]
 .simp[nq,Ip,List.getElem?_eq_none (by omega:ns.length<=k),bC];rfl
theorem Nw{D:DataW Unit}{ns:List Nd}(h:CV D (nq ns) ns.length)(hd:¬ ie ns):JC D<ns.length:=by
 rw[h.size];apply lM;apply Classical.byContradiction;intro hx;apply hd;intro i j iS hj e;exact hx ⟨i,j,iS,hj,by rw[iO,iO];exact e⟩
theorem Ny{D:DataW Unit}{ns:List Nd}(h:CV D (nq ns) ns.length)(hd:ie ns):JC D=ns.length:=by
 rw[h.size];exact lN _ _ (λi j iS hj=>by rw[iO,iO];exact hd i j iS hj)
theorem ui(ns:List Nd)(g:Nat)(v:Value)(w:World)(hv:xY w v ns)(hg:w.cell? ⟨g,0,be⟩=AI v)(xZ:ns.length<=6) :
 Calls AS 42 #[Ie (AI ⟨g,0,be⟩)] w λe w'=>e=AT (U O (kD ns))/\Below w.heap.size w w':=by
 have du:=Iy w _ hg;obtain⟨pa,ca,rfl,ha⟩:=hv;have HA:Hid _:=ha;clear ha;generalize hN:ns.length=n at *;have HN:Hid _:=hN;clear hN;have Hb:=jt;go_enter Tryz.func42,Tryz.ntmps42;go_wp2;go_loopw [20] (λi wr=>∃k:Nat,k<=n/\i=U O k/\Hid (∀j,j<k->(ns.getD j bC).e=0)/\Hid (∃D,wr.ownsMap AS 9 (plainElem (H:=Unit) AS 3) w.heap.size k D/\CV D (nq ns) k)/\Hid (Below w.heap.size w wr)) (λi _=>n-(intOf i).toNat)
 case atStart=>exact⟨0,IP _,rfl,λj hj=>by omega,⟨_,World.ownsMap_made _ _ _ _,yZ _⟩,(Ib _ _).alloc (Ic _) _⟩
 case round=>
  obtain⟨k,hk,rfl,HZ,HD,HB⟩:=hrel;obtain⟨D,HO,HC⟩:=HD.out;have HO:Hid (wr.ownsMap _ _ _ _ _ _):=HO;have HC:Hid _:=HC;clear HD;have Mp:=(HB.out.cell (p:=⟨g,0,be⟩) du).trans hg;by_cases aX:k<n
  .obtain⟨b,off,hp,hl,hr⟩:∃b off,pa=AI ⟨b,off,be⟩/\b<w.heap.size/\vF w b off ns:=by
    rcases HA.out with h|h
    .have:=HN.out;rw[h] at this;simp at this;omega
    .exact h
   subst hp;obtain⟨vm,vr,vs,vg,vw,Mr,c0,c1,c2,c3,c4,c5,c6,c7,c8,c9,c10,c11⟩:=(hr.below HB.out hl).at (by rw[HN.out];exact aX);have HX:Hid ((ns.getD k bC).e≠0->kD ns=(ns.getD k bC).e):=λh=>S6 (by rw[HN.out];exact aX) HZ.out h;have lP:Hid ((ns.getD k bC).e=0->∀j,j<k+1->(ns.getD j bC).e=0):=λh j hj=>by
    by_cases e:j=k
    .subst e;exact h
    .exact HZ.out j (by omega)
   have HG:Hid (∀(c:Int),D.atKey (kS (ns.getD k bC).name) (.lit (.int O 0))=.lit (.int O c)->0<=c/\c<=k/\CV (D.put (kS (ns.getD k bC).name) (.lit (.int O (c+1)))) (nq ns) (k+1)):=λc hc=>by
    have h:=zc HC.out (c:=c) (by rw[iO];exact hc);rw[iO] at h;exact h
   have cI:=HB.out.size;generalize(ns.getD k bC)=nk at *;have cZ:=Mr.name;have oq:Hid (∀W,Below wr.heap.size wr W->Calls _ _ _ _ _):=λW hW=>oR nk vm vr vs vg vw W (Mr.below hW);obtain⟨⟨am,cm,od,_,_⟩,⟨ar,cr,vA,_,_⟩,⟨ax,cx,uc,_,_⟩,⟨ag,cg,zO,_,_⟩,⟨aw,cw,Mm,_,_⟩,_,_⟩:=Mr;subst od vA uc zO Mm;generalize aQ:nk.e=ne at *;clear aQ;obtain⟨nm,ct,ms,rs,sv,gw,⟨px,py,pz,ph,pq⟩,wh⟩:=nk;simp only[dv] at c0 c1 c2 c3 c4 c5 c6 c7 c8 c9 c10 c11 cZ HG oq;have zh:=keyOf_string_mk Tryz.underlying9 cZ;generalize ms.length=V8 at *;generalize rs.length=V9 at *;generalize sv.length=Wb at *;generalize gw.length=Wc at *;generalize wh.length=Wd at *;clear hr HZ;have eV:(k:Int)<n:=by omega
   obtain⟨W1,cT⟩:∃W1,W1=wr.alloc (By #[Y nm,Y ct,J am V8 cm,J ar V9 cr,J ax Wb cx,J ag Wc cg,U O px,U O py,U O pz,U O ph,U O pq,J aw Wd cw] 42):=⟨_,rfl⟩;have aB:Below wr.heap.size wr W1:=by rw[cT];exact(Ib _ _).alloc (Ic _) _
   have ky:Hid (W1.heap[wr.heap.size]?=AI (By #[Y nm,Y ct,J am V8 cm,J ar V9 cr,J ax Wb cx,J ag Wc cg,U O px,U O py,U O pz,U O ph,U O pq,J aw Wd cw] 42 (0,0))):=by rw[cT];exact Ih wr _
   have ba:Hid _:=aB;clear aB;go_upto_region 5 with fail
   rw[<- cT];clear cT c0 c1 c2 c3 c4 c5 c6 c7 c8 c9 c10 c11;obtain⟨d0,d1,d2,d3,d4,d5,d6,d7,d8,d9,d10,d11⟩:=bB ky.out;go_wp2_with fail;refine(oq.out W1 ba.out).mono ?_;rintro e w1 ⟨rfl,aB⟩;have S7:=ba.out.trans (aB.mono ba.out.size);have lQ:Hid (w1.ownsMap _ _ _ _ _ _):=tg HO.out S7;have Nz:Hid _:=HB.out.trans (S7.mono cI);have hm0:=ae ((aB.block _ (BY.1 ky.out).1).trans ky.out) 0;clear aB S7 d0 d1 d2 d3 d4 d5 d6 d7 d8 d9 d10 d11 HB HO oq ky ba Mp;by_cases he:ne=0
   .have kW:(ne !=0)=false:=by simpa using he
    have qK:Hid _:=lP.out he;clear HX lP he;obtain⟨c,jW,cH,_⟩:=lQ.out.lookup_int D9 JA ID (Bd _) zh;obtain⟨g0,g1,g2⟩:=HG.out c cH;have sg:Hid _:=g2;clear g2 cH HG;go_wp2_with (first
     |(at_mapUpdate;refine wpList_mapUpdate_own _ rfl _ _ _ 125 rfl 9 3 D9 JA _ w.heap.size k _ rfl lQ.out (by unfold Il;omega) _ _ _ rfl rfl zh _ [] (plainElem_int ID (WalkArith.wf_i64 (by omega))) ?_)
     |fail)
    intro w2 zi th;have R1:Hid (∃D,w2.ownsMap AS 9 (plainElem (H:=Unit) AS 3) w.heap.size (k+1) D/\CV D (nq ns) (k+1)):=⟨_,zi,sg.out⟩;have R2:Hid _:=Nz.out.grown th Nz.out.size (λj hj=>by cases hj;exact Ic _);clear zi th lQ Nz;go_wp2_with fail;go_roundw
    case rel=>exact⟨k+1,by omega,by go_num,qK,R1,R2⟩
    case measure=>simp[intOf];omega
   .have kW:(ne !=0)=true:=by simpa using he
    have HR:Hid _:=HX.out he;clear he HX lP;go_wp2_with fail;go_ret;exact⟨ai HR.out.symm,Nz.out⟩
  .have eV:k=n:=by omega
   subst eV;have iY:Hid (JC D<k↔¬ ie ns):=by
    have h1:=HC.out;rw[<- HN.out] at h1 ⊢;exact⟨λh hd=>by rw[Ny h1 hd] at h;omega,λhd=>Nw h1 hd⟩
   have xf:Hid (¬ ie ns->kD ns=6):=λhd=>Ce (λj hj=>HZ.out j (by rw[<- HN.out];exact hj)) hd;have kM:Hid (ie ns->kD ns=0):=λhd=>DG (λj hj=>HZ.out j (by rw[<- HN.out];exact hj)) hd;by_cases hd:ie ns
   .have HE:Hid _:=kM.out hd
    have hs:=decide_eq_false (λh=>(iY.out.1 h) hd);have iv:¬ JC D<k:=λh=>(iY.out.1 h) hd;have KV:∀q,(Builtin.len_ #[125] 3 #[.map (AI w.heap.size)]).run AS (wr.drewN q)=.ok (U O (JC D)) (wr.drewN q):=λq=>World.ownsMap.len (w:=wr.drewN q) HO.out JA 3;clear xf kM hd iY HZ;go_wp2_with fail;go_quiet (fail)
    go_wp2_with fail;go_ret;exact⟨ai HE.out.symm,below_drewN HB.out _⟩
   .have HE:Hid _:=xf.out hd
    have hs:=decide_eq_true (iY.out.2 hd);have iv:=iY.out.2 hd;have KV:∀q,(Builtin.len_ #[125] 3 #[.map (AI w.heap.size)]).run AS (wr.drewN q)=.ok (U O (JC D)) (wr.drewN q):=λq=>World.ownsMap.len (w:=wr.drewN q) HO.out JA 3;clear xf kM hd iY HZ;go_wp2_with fail;go_quiet (fail)
    go_wp2_with fail;go_ret;exact⟨ai HE.out.symm,below_drewN HB.out _⟩
theorem ml(g n:Nat)(a:Option Addr)(cap:Nat)(x:Int)(w:World)(hg:w.cell? ⟨g,0,be⟩=AI (J a n cap))(hn:n<=6) :
 Calls AS 68 #[Ie (AI ⟨g,0,be⟩),U O x] w λe w'=>e=AT (Ia (within x 0 ((n:Int)-1)))/\Below w.heap.size w w':=by
 have h1:IntKind.i64.wrap ((n:Int)-1)=(n:Int)-1:=by rw[IntKind.wrap_i64];omega
 go_enter Tryz.func68,Tryz.ntmps68;go_wp2_with (go_at_call 54;refine(cB _ _ _ _).mono ?_;rintro e w' ⟨rfl,rfl⟩);go_ret;exact⟨rfl,Ib _ _⟩
theorem rz(ls:List Lt.fg)(n g:Nat)(a:Option Addr)(cap:Nat)(v:Value)(w:World)(hV:Rv w.heap.size w)(hv:Lt.Sl w v ls)(hg:w.cell? ⟨g,0,be⟩=AI (J a n cap))(cO:w.cell? ⟨g,1,be⟩=AI v)(xZ:n<=6)(aeV:ls.length<=20)(hts:∀l∈ls,l.text.size<=16777216)(h0:oh (vE n) ls=0) :
 Calls AS 43 #[Ie (AI ⟨g,0,be⟩)] w λe w'=>e=AT (U O 0)/\Below w.heap.size w w':=by
 have du:=Iy w _ hg;obtain⟨pa,ca,rfl,_,ha⟩:=hv;have HA:Hid _:=ha;have HTS:Hid _:=hts;have HV:Hid _:=hV;have H0:Hid _:=h0;clear ha hts hV h0;generalize hN:ls.length=m at *;have HN:Hid _:=hN;clear hN;go_enter Tryz.func43,Tryz.ntmps43;go_wp2_with fail;go_loopw [13] (λi wr=>∃k:Nat,k<=m/\i=U O k/\Hid (∀j,j<k->vE n (ls.getD j Lt.dm)=0)/\Hid (Below w.heap.size w wr)) (λi _=>m-(intOf i).toNat)
 case atStart=>exact⟨0,IP _,rfl,λj hj=>by omega,Ib _ _⟩
 case round=>
  obtain⟨k,hk,rfl,HZ,HB⟩:=hrel;have cI:=HB.out.size;by_cases aX:k<m
  .obtain⟨b,off,hp,hl,hr⟩:∃b off,pa=AI ⟨b,off,be⟩/\b<w.heap.size/\Lt.Row w b off ls:=by
    rcases HA.out with h|h
    .have:=HN.out;rw[h] at this;simp at this;omega
    .exact h
   subst hp;obtain⟨c0,c1⟩:=(hr.later HB.out hl) k (by rw[HN.out];exact aX);have hle:vE n (ls.getD k Lt.dm)=0:=Decidable.byContradiction λh=>h ((xX _ Lt.dm ls k (by rw[HN.out];exact aX) HZ.out h).symm.trans H0.out);have qK:Hid (∀j,j<k+1->vE n (ls.getD j Lt.dm)=0):=λj hj=>by
    by_cases e:j=k
    .subst e;exact hle
    .exact HZ.out j (by omega)
   have hkt:(ls.getD k Lt.dm).text.size<=16777216:=by
    have NA:k<ls.length:=by rw[HN.out];exact aX
    apply HTS.out;rw[Ip,If NA];exact IJ NA
   generalize ls.getD k Lt.dm=lk at *;obtain⟨t_o,tx⟩:=lk;simp only at c0 c1 hkt;have hle:(if within t_o 0 ((n:Int)-1)=true then(if(uO tx.data.toList).isSome=true then 0 else 1) else 3)=(0:Int):=hle;have hwi:within t_o 0 ((n:Int)-1)=true:=Decidable.byContradiction λh=>by rw[if_neg h] at hle;cases hle
   rw[if_pos hwi] at hle;obtain⟨p,hro⟩:∃p,uO tx.data.toList=AI p:=by
    cases hq:uO tx.data.toList with
    |some p=>exact⟨p,rfl⟩
    |none=>rw[hq] at hle;simp at hle
   obtain⟨W1,cT⟩:∃W1,W1=wr.alloc (By #[U O t_o,Y tx] 102):=⟨_,rfl⟩;have aB:Below wr.heap.size wr W1:=by rw[cT];exact(Ib _ _).alloc (Ic _) _
   have ba:Hid _:=HB.out.trans (aB.mono cI);have ky:Hid (W1.heap[wr.heap.size]?=AI (By #[U O t_o,Y tx] 102 (0,0))):=by rw[cT];exact Ih wr _
   have mC:Hid (Calls _ _ _ _ _):=hwi▸ml g n a cap t_o W1 ((ba.out.cell (p:=⟨g,0,be⟩) du).trans hg) xZ;have Rb:Hid (∀W,Below W1.heap.size W1 W->Calls _ _ _ _ _):=λW hW=>DH (l:=tx.data.toList) ((HV.out.after ba.out).after hW) hkt hro;have d0:=ae ky.out 0;have d1:=ae ky.out 1;clear hr HZ aB hle hwi hro;go_upto_region 4 with fail
   rw[<- cT];clear cT c0 c1;go_wp2_with fail;refine mC.out.mono ?_;rintro e w2 ⟨rfl,aK⟩;have bu:Hid _:=aK;have d2:=(aK.cell (p:=⟨wr.heap.size,1,be⟩) (BY.1 ky.out).1).trans d1;clear aK mC d0 d1;go_wp2_with fail;refine(Rb.out w2 bu.out).mono ?_;rintro e w3 ⟨bX,ym,ys,yg,yw,rfl,ho⟩;obtain⟨a2,l2,c2,rfl⟩:=bo ho.ms;obtain⟨a3,l3,c3,rfl⟩:=bo ho.sv;obtain⟨a4,l4,c4,rfl⟩:=bo ho.gw;obtain⟨a5,l5,c5,rfl⟩:=bo ho.wh;have cJ:Hid _:=ba.out.trans ((bu.out.trans (bX.mono bu.out.size)).mono ba.out.size);have SP:Hid _:=cJ.out.size;clear bX ho Rb;go_wp2_with fail;go_roundw
   case rel=>exact⟨k+1,by omega,by go_num,qK,cJ.out.alloc SP.out _⟩
   case measure=>simp[intOf];omega
  .have hd:decide ((k:Int)<(m:Int))=false:=by simp;omega
   clear HZ;go_wp2_with fail;go_ret;exact⟨rfl,HB.out⟩
end Go.Proofs.YtfidhgjmifendaaGreatDoor
namespace Go.Proofs.YtfidhgjmifendaaGreatDoor
open Go.RowKit
structure fo(w:World)(t:Nt)(vn vl:Value):Prop where
 ns:xY w vn t.ns
 ls:Lt.Sl w vl t.ls
theorem fo.below{w w':World}{t:Nt}{vn vl:Value}(h:fo w t vn vl)(hb:Below w.heap.size w w'):fo w' t vn vl:=⟨h.ns.below hb,h.ls.below hb⟩
def Nt.DI(t:Nt):Prop:=t.ls.length<=20->∀l∈t.ls,l.text.size<=16777216
theorem Nt.S8{t:Nt}(h:6<t.ns.length\/20<t.ls.length):t.e=2:=if_pos h
theorem Nt.NB{t:Nt}(h:¬ (6<t.ns.length\/20<t.ls.length))(hn:kD t.ns≠0):t.e=kD t.ns:=by unfold Nt.e;rw[if_neg h,if_neg hn]
theorem Nt.rA{t:Nt}(h:¬ (6<t.ns.length\/20<t.ls.length))(hn:kD t.ns=0):t.e=oh (vE t.ns.length) t.ls:=by unfold Nt.e;rw[if_neg h,if_pos hn]
theorem Nt.aeY{t:Nt}(h:t.e=0):oh (vE t.ns.length) t.ls=0:=by
 unfold Nt.e at h;split at h
 .cases h
 .split at h
  .exact h
  .exact absurd h (by assumption)
theorem zW(t:Nt)(g:Nat)(vn vl:Value)(w:World)(hV:Rv w.heap.size w)(h:fo w t vn vl)(hs:t.DI)(PI:oh (vE t.ns.length) t.ls=0)(hg:w.cell? ⟨g,0,be⟩=AI vn)(cO:w.cell? ⟨g,1,be⟩=AI vl) :
 Calls AS 26 #[Ie (AI ⟨g,0,be⟩)] w λe w'=>e=AT (U O t.e)/\Below w.heap.size w w':=by
 have du:=Iy w _ hg;have HCN:Hid (t.ns.length<=6->Calls AS 42 #[Ie (AI ⟨g,0,be⟩)] w λe w'=>e=AT (U O (kD t.ns))/\Below w.heap.size w w'):=λh6=>ui t.ns g vn w h.ns hg h6;have RR:Hid (t.ns.length<=6->t.ls.length<=20->∀W,Below w.heap.size w W->Calls AS 43 #[Ie (AI ⟨g,0,be⟩)] W λe w'=>e=AT (U O 0)/\Below W.heap.size W w'):=λh6 h20 W hW=>by
  obtain⟨a,cap,Fg,_⟩:=h.ns;exact rz t.ls t.ns.length g a cap vl W (hV.after hW) (h.ls.below hW) ((hW.cell (p:=⟨g,0,be⟩) du).trans (by rw[hg,Fg])) ((hW.cell (p:=⟨g,1,be⟩) du).trans cO) h6 h20 (hs h20) PI
 have xf:Hid ((6<t.ns.length\/20<t.ls.length)->t.e=2):=Nt.S8;have kM:Hid (¬ (6<t.ns.length\/20<t.ls.length)->kD t.ns≠0->t.e=kD t.ns):=Nt.NB;have DB:Hid (¬ (6<t.ns.length\/20<t.ls.length)->kD t.ns=0->t.e=0):=λh h1=>(Nt.rA h h1).trans PI;obtain⟨⟨pn,cn,Fg,_⟩,⟨pl,cl,kB,_,_⟩⟩:=h;subst Fg kB;generalize t.e=te at *;generalize kD t.ns=ce at *;generalize t.ns.length=n at *;generalize t.ls.length=m at *;clear hs hV PI;by_cases h6:6<n
 .have d1:decide ((6:Int)<(n:Int))=true:=by simp;omega
  have HE:Hid _:=xf.out (.inl h6);clear xf kM DB h6;go_enter Tryz.func26,Tryz.ntmps26;go_wp2_with fail;go_ret;exact⟨ai HE.out.symm,Ib _ _⟩
 have d1:decide ((6:Int)<(n:Int))=false:=by simp;omega
 by_cases h20:20<m
 .have d2:decide ((20:Int)<(m:Int))=true:=by simp;omega
  have HE:Hid _:=xf.out (.inr h20);clear xf kM DB h6 h20;go_enter Tryz.func26,Tryz.ntmps26;go_wp2_with fail;go_ret;exact⟨ai HE.out.symm,Ib _ _⟩
 have d2:decide ((20:Int)<(m:Int))=false:=by simp;omega
 have Mf:Hid (Calls _ _ _ _ _):=HCN.out (by omega);have vS:Hid (∀W,Below w.heap.size w W->Calls _ _ _ _ _):=RR.out (by omega) (by omega);have S9:Hid _:=kM.out (by omega);have Ta:Hid _:=DB.out (by omega);clear xf kM DB h6 h20 HCN RR;go_enter Tryz.func26,Tryz.ntmps26;go_wp2_with fail;refine Mf.out.mono ?_;rintro e w1 ⟨rfl,aB⟩;have ba:Hid _:=aB;clear aB;by_cases h0:ce=0
 .have he:(ce !=0)=false:=by simpa using h0
  have HE:Hid _:=Ta.out h0;clear h0 S9 Ta;go_wp2_with fail;refine(vS.out w1 ba.out).mono ?_;rintro e w2 ⟨rfl,aK⟩;have bu:Hid _:=ba.out.trans (aK.mono ba.out.size);clear aK;go_wp2_with fail;go_ret;exact⟨ai HE.out.symm,bu.out⟩
 .have he:(ce !=0)=true:=by simpa using h0
  have HE:Hid _:=S9.out h0;clear h0 S9 Ta;go_wp2_with fail;go_ret;exact⟨ai HE.out.symm,ba.out⟩
theorem qt(t:Nt)(vn vl:Value)(w:World)(hV:Rv w.heap.size w)(h:fo w t vn vl)(hs:t.DI)(PI:oh (vE t.ns.length) t.ls=0) :
 Calls AS 11 #[Ij #[vn,vl]] w λe w'=>e=AT (U O t.e)/\Below w.heap.size w w':=by
 have HC:Hid (∀W g,Below w.heap.size w W->W.cell? ⟨g,0,be⟩=AI vn->W.cell? ⟨g,1,be⟩=AI vl->Calls _ _ _ _ _):=λW g hW h0 h1=>zW t g vn vl W (hV.after hW) (h.below hW) hs PI h0 h1;obtain⟨⟨pn,cn,Fg,_⟩,⟨pl,cl,kB,_,_⟩⟩:=h;subst Fg kB;generalize t.e=te at *;generalize t.ns.length=n at *;generalize t.ls.length=m at *;clear hs hV PI;go_enter Tryz.func11,Tryz.ntmps11;go_wp2_with fail;refine(HC.out _ _ (((Ib _ _).alloc (Ic _) _).alloc (by simp) _) (by simp) (by simp)).mono ?_;rintro e w1 ⟨rfl,aB⟩;have ba:Hid _:=((((Ib w.heap.size w).alloc (Ic _) _).alloc (by simp) _).trans (aB.mono (by simp;omega)));clear aB;go_wp2_with fail;go_ret;exact⟨rfl,ba.out⟩
structure Nx where
 n:Nd
 vm:Value
 vr:Value
 vs:Value
 vg:Value
 vw:Value
def Nx.cs(x:Nx):List Value:=(dv x.n x.vm x.vr x.vs x.vg x.vw).toList
def bZ:Nx:=⟨bC,J be 0 0,J be 0 0,J be 0 0,J be 0 0,J be 0 0⟩
def ji(L:List Nx):List Value:=L.flatMap Nx.cs
theorem jG(x:Nx):x.cs.length=12:=rfl
theorem yb:∀L:List Nx,(ji L).length=L.length*12
 |[]=>rfl
 |x::L=>by
  have:=yb L;unfold ji at this ⊢;rw[I2,Ig,this,jG,Iw];omega
theorem kJ(a b:List Nx):ji (a++b)=ji a++ji b:=by simp[ji]
theorem sV(x:Nx):ji [x]=x.cs:=by simp[ji]
theorem mm(L:List Nx)(j:Nat)(hj:j<L.length)(t:Nat)(ht:t<12):(ji L)[j*12+t]?=(L.getD j bZ).cs[t]?:=by
 induction L generalizing j with
 |nil=>simp at hj
 |cons m r ih=>
  have e:ji (m::r)=m.cs++ji r:=by simp[ji]
  rw[e];cases j with
  |zero=>rw[Js (by rw[jG];omega)];simp
  |succ j=>
   rw[Jr (by rw[jG];omega),jG,show(j+1)*12+t-12=j*12+t by omega,ih j (by simpa using hj)];simp
theorem o9{b:Nat}{T:TypeId}{f:Nat×Nat}:∀(L pre MP post:List Value) {w:World},w.heap[b]?=AI (By (pre++MP++post).toArray T f)->MP.length=L.length->(aC b L pre.length w).heap[b]?=AI (By (pre++L++post).toArray T f)
 |[],pre,MP,post,w,h,hl=>by
  have:MP=[]:=List.eq_nil_of_length_eq_zero (by simpa using hl)
  subst this;exact h
 |x::r,pre,[],post,w,h,hl=>absurd hl (by simp)
 |x::r,pre,y::s,post,w,h,hl=>by
  have h1:=Joins.block_setCell (i:=pre.length) h x;rw[List.setIfInBounds_toArray,show(pre++y::s++post).set pre.length x=(pre++[x])++s++post by simp] at h1;have h2:=o9 r (pre++[x]) s post h1 (by simpa using hl);rw[show(pre++[x]).length=pre.length+1 by simp,show(pre++[x])++r++post=pre++x::r++post by simp] at h2;exact h2
structure rR(B:Nat)(w:World)(t:Nt)(un ul:Value)(nb:Nat)(L:List Nx):Prop where
 un:un=J (AI ⟨nb,0,be⟩) t.ns.length t.ns.length
 le:B<=nb
 ns:L.map (·.n)=t.ns
 row:w.heap[nb]?=AI (By (ji L).toArray 42 (0,0))
 own:∀x∈L,cP (nb+1) w x.n x.vm x.vr x.vs x.vg x.vw
 ls:Lt.Own (nb+1) w ul t.ls
theorem cP.fi{B:Nat}{w w':World}{n:Nd}{vm vr vs vg vw:Value}(h:cP B w n vm vr vs vg vw)(hk:∀b,B<=b->b<w.heap.size->w'.heap[b]?=w.heap[b]?):cP B w' n vm vr vs vg vw:=⟨ej hk h.ms,ej hk h.rs,ej hk h.sv,ej hk h.gw,ej hk h.wh⟩
theorem zX{base iX:Nat}{w:World}{T:TypeId}{k n:Nat}{v:Value}{cs:List Value}(h:w.ownsRow base T k v n cs)(hb:iX<=base):w.ownsRow iX T k v n cs:=by
 rcases h.2 with⟨rfl,h0⟩|⟨g,c,cur,rfl,eD,r⟩
 .exact⟨h.1,.inl ⟨rfl,h0⟩⟩
 .exact⟨h.1,.inr ⟨g,c,cur,rfl,Ir hb eD,r⟩⟩
theorem cP.mono{A B:Nat}{w:World}{n:Nd}{vm vr vs vg vw:Value}(h:cP B w n vm vr vs vg vw)(hb:A<=B):cP A w n vm vr vs vg vw:=⟨h.ms.mono hb,zX h.rs hb,h.sv.mono hb,h.gw.mono hb,h.wh.mono hb⟩
def NC:Value:=Ij #[Y ⟨#[]⟩,Y ⟨#[]⟩,J be 0 0,J be 0 0,J be 0 0,J be 0 0,U O 0,U O 0,U O 0,U O 0,U O 0,J be 0 0]
theorem ND:madeCells NC.cells (0*12)=(ji (Jn 0 bZ)).toArray:=by kernel_rfl
theorem NF:madeCells NC.cells (1*12)=(ji (Jn 1 bZ)).toArray:=by kernel_rfl
theorem NG:madeCells NC.cells (2*12)=(ji (Jn 2 bZ)).toArray:=by kernel_rfl
theorem NH:madeCells NC.cells (3*12)=(ji (Jn 3 bZ)).toArray:=by kernel_rfl
theorem NI:madeCells NC.cells (4*12)=(ji (Jn 4 bZ)).toArray:=by kernel_rfl
theorem NJ:madeCells NC.cells (5*12)=(ji (Jn 5 bZ)).toArray:=by kernel_rfl
theorem NK:madeCells NC.cells (6*12)=(ji (Jn 6 bZ)).toArray:=by kernel_rfl
theorem Ch(n:Nat)(h:n<=6):madeCells NC.cells (n*12)=(ji (Jn n bZ)).toArray:=by
 have h7:n=0\/n=1\/n=2\/n=3\/n=4\/n=5\/n=6:=by omega
 rcases h7 with rfl|rfl|rfl|rfl|rfl|rfl|rfl
 .exact ND
 .exact NF
 .exact NG
 .exact NH
 .exact NI
 .exact NJ
 .exact NK
theorem Tryz.Tb:(Tryz.prog.info? 42).map (λi=>(i.zero,i.size,i.bytes))=AI (AI (Ij #[Y ⟨#[]⟩,Y ⟨#[]⟩,J be 0 0,J be 0 0,J be 0 0,J be 0 0,U O 0,U O 0,U O 0,U O 0,U O 0,J be 0 0]),12,192):=by kernel_rfl
theorem uj(t:Nt)(vn vl:Value)(w:World)(h:fo w t vn vl)(xZ:t.ns.length<=6)(aeV:t.ls.length<=20)(zx:∀n∈t.ns,n.ms.length<=1000/\n.rs.length<=1000/\n.sv.length<=1000/\n.gw.length<=1000/\n.wh.length<=1000) :
 Calls AS 32 #[Ij #[vn,vl]] w λe w'=>∃un a l c L,e=AT (Ij #[un,J a l c])/\rR w.heap.size w' t un (J a l c) (w.heap.size+2) L/\Below w.heap.size w w':=by
 obtain⟨i0,fV,di,il,gT⟩:=info_parts Tryz.Tb;have RR:Hid (∀W,Below w.heap.size w W->Calls _ _ _ _ _):=λW hW=>Lt.fc t.ls vl W (h.ls.below hW) (by omega);have HSM:Hid _:=zx;obtain⟨⟨pn,cn,Fg,ha⟩,⟨pl,cl,kB,_,_⟩⟩:=h;subst Fg kB;obtain⟨ns,ls⟩:=t;simp only at *;have HA:Hid _:=ha;clear ha zx;generalize hN:ns.length=n at *;have HN:Hid _:=hN;clear hN;generalize ls.length=m at *;obtain⟨W0,bN⟩:∃W0,W0=(w.alloc (By #[J pn n cn,J pl m cl] 27)).alloc (By #[J be 0 0,J be 0 0] 27):=⟨_,rfl⟩;have bO:Below w.heap.size w W0:=by rw[bN];exact((Ib _ _).alloc (Ic _) _).alloc (by simp) _
 have eK:W0.heap.size=w.heap.size+2:=by rw[bN];simp
 have k0:W0.heap[w.heap.size]?=AI (By #[J pn n cn,J pl m cl] 27 (0,0)):=by
  rw[bN];exact(Lib.alloc_old _ _ _ (by simp)).trans (Ih w _)
 have k1:W0.heap[w.heap.size+1]?=AI (By #[J be 0 0,J be 0 0] 27 (0,0)):=by
  rw[bN];have:=Ih (w.alloc (By #[J pn n cn,J pl m cl] 27)) (By #[J be 0 0,J be 0 0] 27);simpa using this
 obtain⟨W1,cT⟩:∃W1,W1=W0.alloc (By (ji (Jn n bZ)).toArray 42):=⟨_,rfl⟩;have R6:(Instr.makeSlice 24 (U O (n:Int)) (U O (n:Int))).run AS W0=.ok (J (AI ⟨w.heap.size+2,0,be⟩) n n) W1:=by
  have h:=run_makeSlice (P:=AS) (w:=W0) 24 42 i0 _ Tryz.underlying24 fV di O O (n:Int) (n:Int) (by omega) (Int.le_refl _) (by rw[il];omega) (by rw[gT];omega) (by omega);have hm:=Ch n xZ;unfold NC at hm;rw[il,JN,hm,eK] at h;rw[cT];exact h
 have aB:Below W0.heap.size W0 W1:=by rw[cT];exact(Ib _ _).alloc (Ic _) _
 have kn:W1.heap[w.heap.size+2]?=AI (By (ji (Jn n bZ)).toArray 42 (0,0)):=by rw[cT,<- eK];exact Ih W0 _
 have ft:W1.heap.size=w.heap.size+3:=by rw[cT];simp;omega
 have pY:Hid (W1.heap[w.heap.size]?=AI (By #[J pn n cn,J pl m cl] 27 (0,0))/\W1.heap[w.heap.size+1]?=AI (By #[J be 0 0,J be 0 0] 27 (0,0))/\Below w.heap.size w W1):=⟨(aB.block _ (by omega)).trans k0,(aB.block _ (by omega)).trans k1,bO.trans (aB.mono (by omega))⟩;have Tc:Hid _:=kn;have tR:Hid _:=ft;have x0:=ae k0 0;have x1:=ae pY.out.1 0;clear bO aB k0 k1 kn cT eK ft fV di il gT;go_enter Tryz.func32,Tryz.ntmps32;go_upto_region 1 with fail
 rw[<- bN];clear bN;go_wp2_with fail;clear R6 x0 x1;go_loopw [13] (λi wr=>∃(k:Nat) (L:List Nx),k<=n/\i=U O k/\Hid (L.map (·.n)=ns.take k/\L.length=k)/\Hid (wr.heap[w.heap.size+2]?=AI (By (ji (L++Jn (n-k) bZ)).toArray 42 (0,0)))/\Hid (∀x∈L,cP (w.heap.size+3) wr x.n x.vm x.vr x.vs x.vg x.vw)/\Hid (wr.heap[w.heap.size]?=AI (By #[J pn n cn,J pl m cl] 27 (0,0))/\wr.heap[w.heap.size+1]?=AI (By #[J be 0 0,J be 0 0] 27 (0,0))/\Below w.heap.size w wr)/\w.heap.size+3<=wr.heap.size) (λi _=>n-(intOf i).toNat)
 case atStart=>exact⟨0,[],IP _,rfl,⟨rfl,rfl⟩,Tc,(λx hx=>by cases hx),pY,by have:=tR.out;omega⟩
 case round=>
  obtain⟨k,L,hk,rfl,HL,HK,HO,HB,cI⟩:=hrel;by_cases aX:k<n
  .obtain⟨b,off,hp,hl,hr⟩:∃b off,pn=AI ⟨b,off,be⟩/\b<w.heap.size/\vF w b off ns:=by
    rcases HA.out with h|h
    .have:=HN.out;rw[h] at this;simp at this;omega
    .exact h
   subst hp;obtain⟨vm,vr,vs,vg,vw,Mr,c0,c1,c2,c3,c4,c5,c6,c7,c8,c9,c10,c11⟩:=(hr.below HB.out.2.2 hl).at (by rw[HN.out];exact aX);have iT:k<ns.length:=by rw[HN.out];exact aX
   have HTK:Hid (ns.take (k+1)=ns.take k++[ns.getD k bC]):=by
    show _=_;rw[List.take_add_one,Ip,If iT];rfl
   have Fh:=HSM.out (ns.getD k bC) (by rw[Ip,If iT];exact IJ iT);generalize(ns.getD k bC)=nk at *;have KN:Hid (∀W,Below wr.heap.size wr W->Calls _ _ _ _ _):=λW hW=>rf nk vm vr vs vg vw W (Mr.below hW) Fh.1 Fh.2.1 Fh.2.2.1 Fh.2.2.2.1 Fh.2.2.2.2;obtain⟨⟨am,cm,od,_,_⟩,⟨ar,cr,vA,_,_⟩,⟨ax,cx,uc,_,_⟩,⟨ag,cg,zO,_,_⟩,⟨aw,cw,Mm,_,_⟩,_,_⟩:=Mr;subst od vA uc zO Mm;obtain⟨nm,ct,ms,rs,sv,gw,⟨px,py,pz,ph,pq⟩,wh⟩:=nk;simp only[dv] at c0 c1 c2 c3 c4 c5 c6 c7 c8 c9 c10 c11 KN;clear hr Fh iT;have eV:(k:Int)<n:=by omega
   obtain⟨W2,bJ⟩:∃W2,W2=wr.alloc (By #[Y nm,Y ct,J am ms.length cm,J ar rs.length cr,J ax sv.length cx,J ag gw.length cg,U O px,U O py,U O pz,U O ph,U O pq,J aw wh.length cw] 42):=⟨_,rfl⟩;have aK:Below wr.heap.size wr W2:=by rw[bJ];exact(Ib _ _).alloc (Ic _) _
   have Bj:Hid (W2.heap[wr.heap.size]?=AI (By #[Y nm,Y ct,J am ms.length cm,J ar rs.length cr,J ax sv.length cx,J ag gw.length cg,U O px,U O py,U O pz,U O ph,U O pq,J aw wh.length cw] 42 (0,0))):=by rw[bJ];exact Ih wr _
   have bu:Hid _:=aK;clear aK;go_upto_region 5 with fail
   rw[<- bJ];clear bJ c0 c1 c2 c3 c4 c5 c6 c7 c8 c9 c10 c11;obtain⟨d0,d1,d2,d3,d4,d5,d6,d7,d8,d9,d10,d11⟩:=bB Bj.out;go_wp2_with fail;refine(KN.out W2 bu.out).mono ?_;rintro e w3 ⟨um,ur,us,ug,uw,rfl,lE,bX⟩;have Ci:=bu.out.trans (bX.mono bu.out.size);have jY:w3.heap[w.heap.size+2]?=AI (By (ji (L++Jn (n-k) bZ)).toArray 42 (0,0)):=(Ci.block _ (by omega)).trans HK.out;have Ef:=HL.out.2;have hnk:Jn (n-k) bZ=bZ::Jn (n-(k+1)) bZ:=by rw[show n-k=(n-(k+1))+1 by omega,List.replicate_succ]
   have WR:ji (L++Jn (n-k) bZ)=ji L++bZ.cs++ji (Jn (n-(k+1)) bZ):=by
    rw[kJ,hnk,show ji (bZ::Jn (n-(k+1)) bZ)=bZ.cs++ji (Jn (n-(k+1)) bZ) by simp[ji],Io]
   have hlen:(ji L).length=k*12:=by rw[yb,Ef]
   rw[WR] at jY;have hz:∀i,i<12->w3.cell? ⟨w.heap.size+2,k*12+i,be⟩=bZ.cs[i]? /\ w3.frozen? ⟨w.heap.size+2,k*12+i,be⟩=false:=λi hi=>by
    refine⟨?_,by simp[Is,jY]⟩;rw[ae jY];rw[List.getElem?_toArray,Io,Jr (by omega),hlen,Nat.add_sub_cancel_left,Js (by rw[jG];omega)]
   have e0:w3.cell? ⟨w.heap.size+2,k*12,be⟩=AI (Y ⟨#[]⟩):=(hz 0 (by omega)).1;have z0:w3.frozen? ⟨w.heap.size+2,k*12,be⟩=false:=(hz 0 (by omega)).2;have e1:w3.cell? ⟨w.heap.size+2,k*12+1,be⟩=AI (Y ⟨#[]⟩):=(hz 1 (by omega)).1;have z1:w3.frozen? ⟨w.heap.size+2,k*12+1,be⟩=false:=(hz 1 (by omega)).2;have e2:w3.cell? ⟨w.heap.size+2,k*12+2,be⟩=AI (J be 0 0):=(hz 2 (by omega)).1;have z2:w3.frozen? ⟨w.heap.size+2,k*12+2,be⟩=false:=(hz 2 (by omega)).2;have e3:w3.cell? ⟨w.heap.size+2,k*12+3,be⟩=AI (J be 0 0):=(hz 3 (by omega)).1;have z3:w3.frozen? ⟨w.heap.size+2,k*12+3,be⟩=false:=(hz 3 (by omega)).2;have e4:w3.cell? ⟨w.heap.size+2,k*12+4,be⟩=AI (J be 0 0):=(hz 4 (by omega)).1;have z4:w3.frozen? ⟨w.heap.size+2,k*12+4,be⟩=false:=(hz 4 (by omega)).2;have e5:w3.cell? ⟨w.heap.size+2,k*12+5,be⟩=AI (J be 0 0):=(hz 5 (by omega)).1;have z5:w3.frozen? ⟨w.heap.size+2,k*12+5,be⟩=false:=(hz 5 (by omega)).2;have e6:w3.cell? ⟨w.heap.size+2,k*12+6,be⟩=AI (U O 0):=(hz 6 (by omega)).1;have z6:w3.frozen? ⟨w.heap.size+2,k*12+6,be⟩=false:=(hz 6 (by omega)).2;have e7:w3.cell? ⟨w.heap.size+2,k*12+7,be⟩=AI (U O 0):=(hz 7 (by omega)).1;have z7:w3.frozen? ⟨w.heap.size+2,k*12+7,be⟩=false:=(hz 7 (by omega)).2;have e8:w3.cell? ⟨w.heap.size+2,k*12+8,be⟩=AI (U O 0):=(hz 8 (by omega)).1;have z8:w3.frozen? ⟨w.heap.size+2,k*12+8,be⟩=false:=(hz 8 (by omega)).2;have e9:w3.cell? ⟨w.heap.size+2,k*12+9,be⟩=AI (U O 0):=(hz 9 (by omega)).1;have z9:w3.frozen? ⟨w.heap.size+2,k*12+9,be⟩=false:=(hz 9 (by omega)).2;have e10:w3.cell? ⟨w.heap.size+2,k*12+10,be⟩=AI (U O 0):=(hz 10 (by omega)).1;have z10:w3.frozen? ⟨w.heap.size+2,k*12+10,be⟩=false:=(hz 10 (by omega)).2;have e11:w3.cell? ⟨w.heap.size+2,k*12+11,be⟩=AI (J be 0 0):=(hz 11 (by omega)).1;have z11:w3.frozen? ⟨w.heap.size+2,k*12+11,be⟩=false:=(hz 11 (by omega)).2;obtain⟨bm,em,hum,_⟩:=aA lE.ms;obtain⟨br,er,hur,_⟩:=aA lE.rs;obtain⟨bx,ex,hus,_⟩:=aA lE.sv;obtain⟨bg,eg,hug,_⟩:=aA lE.gw;obtain⟨bw,ew,huw,_⟩:=aA lE.wh;simp only at hum hur hus hug huw;subst hum hur hus hug huw;clear hz WR hnk d0 d1 d2 d3 d4 d5 d6 d7 d8 d9 d10 d11;obtain⟨W4,nZ⟩:∃W4,W4=aC (w.heap.size+2) [Y nm,Y ct,J bm ms.length em,J br rs.length er,J bx sv.length ex,J bg gw.length eg,U O px,U O py,U O pz,U O ph,U O pq,J bw wh.length ew] (k*12) w3:=⟨_,rfl⟩;have Eb:Hid (W4.heap[w.heap.size+2]?=AI (By (ji ((L++[⟨⟨nm,ct,ms,rs,sv,gw,⟨px,py,pz,ph,pq⟩,wh⟩,J bm ms.length em,J br rs.length er,J bx sv.length ex,J bg gw.length eg,J bw wh.length ew⟩])++Jn (n-(k+1)) bZ)).toArray 42 (0,0))):=by
    have h:=o9 [Y nm,Y ct,J bm ms.length em,J br rs.length er,J bx sv.length ex,J bg gw.length eg,U O px,U O py,U O pz,U O ph,U O pq,J bw wh.length ew] (ji L) bZ.cs (ji (Jn (n-(k+1)) bZ)) jY rfl;rw[hlen,<- nZ] at h;rw[kJ,kJ,sV];exact h
   have eA:∀q,q≠w.heap.size+2->W4.heap[q]?=w3.heap[q]?:=λq hq=>by rw[nZ];exact aV hq _ _ _
   have mH:W4.heap.size=w3.heap.size:=by rw[nZ];exact fw _ _ _ _
   have nX:Hid (∀x∈L++[(⟨⟨nm,ct,ms,rs,sv,gw,⟨px,py,pz,ph,pq⟩,wh⟩,J bm ms.length em,J br rs.length er,J bx sv.length ex,J bg gw.length eg,J bw wh.length ew⟩:Nx)],cP (w.heap.size+3) W4 x.n x.vm x.vr x.vs x.vg x.vw):=λx hx=>by
    rcases Jq.1 hx with hx|hx
    .exact((HO.out x hx).below Ci).fi (λq hq _=>eA q (by omega))
    .rw[I8.1 hx]
     exact(lE.mono (by have:=bu.out.size;omega)).fi (λq hq _=>eA q (by omega))
   have fO:Hid (W4.heap[w.heap.size]?=AI (By #[J (AI ⟨b,off,be⟩) n cn,J pl m cl] 27 (0,0))/\W4.heap[w.heap.size+1]?=AI (By #[J be 0 0,J be 0 0] 27 (0,0))/\Below w.heap.size w W4):=⟨(eA _ (by omega)).trans ((Ci.block _ (by omega)).trans HB.out.1),(eA _ (by omega)).trans ((Ci.block _ (by omega)).trans HB.out.2.1),by rw[nZ];exact aT (by omega) _ _ (HB.out.2.2.trans (Ci.mono (by omega)))⟩;have RQ:Hid ((L++[(⟨⟨nm,ct,ms,rs,sv,gw,⟨px,py,pz,ph,pq⟩,wh⟩,J bm ms.length em,J br rs.length er,J bx sv.length ex,J bg gw.length eg,J bw wh.length ew⟩:Nx)]).map (·.n)=ns.take (k+1)/\(L++[(⟨⟨nm,ct,ms,rs,sv,gw,⟨px,py,pz,ph,pq⟩,wh⟩,J bm ms.length em,J br rs.length er,J bx sv.length ex,J bg gw.length eg,J bw wh.length ew⟩:Nx)]).length=k+1):=⟨by rw[List.map_append,HL.out.1,HTK.out];rfl,by rw[Ig,Ef];rfl⟩;have aeZ:w.heap.size+3<=W4.heap.size:=by rw[mH];have:=Ci.size;omega
   clear eA mH jY hlen lE bX Ci Ef HTK HO HK HL HB bu Bj KN;go_upto_region 6 with fail
   simp only[aC,Nat.add_assoc,Jf] at nZ;rw[<- nZ];clear nZ e0 e1 e2 e3 e4 e5 e6 e7 e8 e9 e10 e11 z0 z1 z2 z3 z4 z5 z6 z7 z8 z9 z10 z11;go_wp2_with fail;exact⟨⟨k+1,_,by omega,by go_num,RQ,Eb,nX,fO,aeZ⟩,by simp[intOf];omega⟩
  .have eV:k=n:=by omega
   have hd:decide ((k:Int)<(n:Int))=false:=by simp;omega
   have x2:=ae HB.out.1 1;go_wp2_with fail;refine(RR.out wr HB.out.2.2).mono ?_;rintro e w5 ⟨v',rfl,Re,jD⟩;obtain⟨al,ll,kl,rfl⟩:=bo Re;have kX:=(jD.block _ (by omega)).trans HB.out.2.1;obtain⟨W6,qu⟩:∃W6,W6=aC (w.heap.size+1) [J (AI ⟨w.heap.size+2,0,be⟩) n n,J al ll kl] 0 w5:=⟨_,rfl⟩;have DJ:W6.heap[w.heap.size+1]?=AI (By #[J (AI ⟨w.heap.size+2,0,be⟩) n n,J al ll kl] 27 (0,0)):=by rw[qu];exact bA [J (AI ⟨w.heap.size+2,0,be⟩) n n,J al ll kl] [] [J be 0 0,J be 0 0] kX rfl
   have eA:∀q,q≠w.heap.size+1->W6.heap[q]?=w5.heap[q]?:=λq hq=>by rw[qu];exact aV hq _ _ _
   have gZ:Hid (∃un a l c L,Ending.returned (Ij #[J (AI ⟨w.heap.size+2,0,be⟩) n n,J al ll kl])=AT (Ij #[un,J a l c])/\rR w.heap.size W6 ⟨ns,ls⟩ un (J a l c) (w.heap.size+2) L/\Below w.heap.size w W6):=by
    have hHK:=HK.out;rw[show n-k=0 by omega] at hHK;simp only[List.replicate_zero,JF] at hHK;refine⟨_,_,_,_,L,rfl,⟨by rw[HN.out],by omega,?_,?_,?_,?_⟩,?_⟩
    .rw[HL.out.1,eV,<- HN.out,List.take_length]
    .exact(eA _ (by omega)).trans ((jD.block _ (by omega)).trans hHK)
    .exact λx hx=>((HO.out x hx).below jD).fi (λq hq _=>eA q (by omega))
    .exact ej (λq hq _=>eA q (by omega)) (zX Re (by omega))
    .rw[qu];exact aT (by omega) _ _ (HB.out.2.2.trans (jD.mono (by omega)))
   have g0:=ae kX 0;have g1:=ae kX 1;have f0:w5.frozen? ⟨w.heap.size+1,0,be⟩=false:=by simp[Is,kX]
   have f1:w5.frozen? ⟨w.heap.size+1,1,be⟩=false:=by simp[Is,kX]
   have q0:=ae DJ 0;have q1:=ae DJ 1;clear kX DJ eA Re jD HB HO HK HL eV hd x2 RR;go_wp2_with fail;simp only[aC,IC] at qu;rw[<- qu];clear qu g0 g1 f0 f1;exact IK (v:=Ij #[J (AI ⟨w.heap.size+2,0,be⟩) n n,J al ll kl]) (by simp[results,Tryz.results32,go_sem,q0,q1]) rfl gZ.out
structure cM(C:Nat)(w:World)(nb:Nat)(L:List Nx):Prop where
 le:C<=nb
 row:w.heap[nb]?=AI (By (ji L).toArray 42 (0,0))
 own:∀x∈L,cP C w x.n x.vm x.vr x.vs x.vg x.vw
 ok:∀x∈L,iw x.n
theorem cP.mv{C B:Nat}{w w':World}{n:Nd}{vm vr vs vg vw:Value}(h:cP B w n vm vr vs vg vw)(hm:Mv C w w'):cP B w' n vm vr vs vg vw:=
 ⟨ev h.ms (λb cs f e=>hm.fi b cs _ f e (by decide) (by decide)),ev h.rs (λb cs f e=>hm.fi b cs _ f e (by decide) (by decide)),ev h.sv (λb cs f e=>hm.fi b cs _ f e (by decide) (by decide)),ev h.gw (λb cs f e=>hm.fi b cs _ f e (by decide) (by decide)),ev h.wh (λb cs f e=>hm.fi b cs _ f e (by decide) (by decide))⟩
theorem cM.mv{C nb:Nat}{w w':World}{L:List Nx}(h:cM C w nb L)(hm:Mv C w w'):cM C w' nb L:=⟨h.le,hm.fi _ _ _ _ h.row (by decide) (by decide),λx hx=>(h.own x hx).mv hm,h.ok⟩
theorem cM.below{C nb:Nat}{w w':World}{L:List Nx}(h:cM C w nb L)(hb:Below w.heap.size w w')(hC:C<=w.heap.size):cM C w' nb L:=h.mv (Mv.of hb hC)
theorem gv{L:List Nx}{j:Nat}(hj:j<L.length):L.getD j bZ∈L:=by rw[Ip,If hj];exact IJ hj
theorem cM.cell{C nb:Nat}{w:World}{L:List Nx}(h:cM C w nb L){j:Nat}(hj:j<L.length)(i:Nat)(hi:i<12):w.cell? ⟨nb,0+j*12+i,be⟩=(L.getD j bZ).cs[i]?:=by
 rw[ae h.row];simpa using mm L j hj i hi
theorem yc(C g nb j n cap:Nat)(L:List Nx)(w:World)(hN:cM C w nb L)(hj:j<L.length)(hn:n=L.length)(g0:w.cell? ⟨g,0,be⟩=AI (J (AI ⟨nb,0,be⟩) n cap))(g3:w.cell? ⟨g,3,be⟩=AI (U O (j:Int))) :
 Calls AS 85 #[Ie (AI ⟨g,0,be⟩)] w λe w'=>e=AT (Ij (dv (L.getD j bZ).n (L.getD j bZ).vm (L.getD j bZ).vr (L.getD j bZ).vs (L.getD j bZ).vg (L.getD j bZ).vw))/\Below w.heap.size w w':=by
 have hc:=λi hi=>hN.cell hj i hi;have ho:=hN.own _ (gv hj);generalize L.getD j bZ=x at *;obtain⟨⟨nm,ct,ms,rs,sv,gw,⟨px,py,pz,ph,pq⟩,wh⟩,vm,vr,vs,vg,vw⟩:=x;obtain⟨a2,c2,h2⟩:=aL ho.ms;obtain⟨a3,c3,h3⟩:=aL ho.rs;obtain⟨a4,c4,h4⟩:=aL ho.sv;obtain⟨a5,c5,h5⟩:=aL ho.gw;obtain⟨a11,c11,h11⟩:=aL ho.wh;simp only at h2 h3 h4 h5 h11;subst h2 h3 h4 h5 h11;exact Sf g nb 0 n cap j nm ct a2 a3 a4 a5 a11 _ c2 _ c3 _ c4 _ c5 _ c11 px py pz ph pq w g0 g3 (by omega) (hc 0 (by omega)) (hc 1 (by omega)) (hc 2 (by omega)) (hc 3 (by omega)) (hc 4 (by omega)) (hc 5 (by omega)) (hc 6 (by omega)) (hc 7 (by omega)) (hc 8 (by omega)) (hc 9 (by omega)) (hc 10 (by omega)) (hc 11 (by omega))
def eB(n:Nd):Pk:=⟨n.name,true,n.ms,n.sv,n.gw,n.wh⟩
end Go.Proofs.YtfidhgjmifendaaGreatDoor
