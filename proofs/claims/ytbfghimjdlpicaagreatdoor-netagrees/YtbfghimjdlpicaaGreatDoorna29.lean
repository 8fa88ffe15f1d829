import Derived.Test.YtbfghimjdlpicaaGreatDoorna28
import Derived.Test.YtbfghimjdlpicaaGreatDoorna18
set_option maxHeartbeats 12800000
set_option maxRecDepth 100000
open Go.Lib renaming decDigits→OP,itoa→QG,indexByte→Jm,indexByte_ge→Q5
open List renaming singleton_append→O4,append_assoc→Iq,mem_singleton→IY,append_nil→JO,mem_cons_self→Jg,mem_cons→IN,mem_cons_of_mem→Jl,length_cons→Iy,length_append→Ii,flatMap_cons→I4,flatMap_nil→OB,nil_append→QE,range→JC,length_singleton→Og,getD→Ir,getElem?_eq_getElem→Ic
open Option renaming some→AI,bind_some→Jo,bind_eq_some_iff→Iz,none→be
open Int renaming toNat_natCast→JR
open Option.some renaming injEq→Iu
open Prod.mk renaming injEq→IU
open Go.Value renaming slice→J,string→Y,int→U,bool→Ia,pointer→If,tuple→Ip,agg→Ik
open Nat renaming lt_of_lt_of_le→IJ,le_refl→Ie,zero_add→ID,reduceAdd→Jn,zero_le→IF
open Go.IntKind renaming i64→O
open Go renaming maxLen→Io,heap_alloc_new→Ij
open Go.Obj renaming cells→By
open Go.Ending renaming returned→AT
open Go.Proofs.Tryz renaming prog→AS,underlying166→JG,underlying3→IH
open Array renaming getElem?_eq_some_iff→BY
open Go.World renaming frozen?→It,block_lt_of_cell?→Iw
open Go.Maps renaming size→JK
open Go.RowKit.Below renaming refl→Ib
namespace Go.Proofs.YtbfghimjdlpicaaGreatDoor
open Go.RowKit
theorem zE{d:Nat}(h:d<10):(UInt8.ofNat (48+d)).toNat=48+d:=by
 rw[UInt8.toNat_ofNat'];omega
theorem Xm(u:Nat)(hu:u<18446744073709551616)(t:List UInt8):Lib.parseUint10 0 (OP u++t)=Lib.parseUint10 u t:=by
 induction u using Nat.strongRecOn generalizing t with
 |_ u ih=>
  rw[OP];split
  .rename_i h
   rw[O4,Lib.parseUint10,zE h,if_pos (by omega),if_neg (by omega),if_neg (by omega)];congr 1;omega
  .rename_i h
   rw[Iq,ih (u/10) (by omega) (by omega),O4,Lib.parseUint10,zE (by omega),if_pos (by omega),if_neg (by omega),if_neg (by omega)];congr 1;omega
theorem zF(u:Nat):∀c∈OP u,48<=c.toNat/\c.toNat<=57:=by
 induction u using Nat.strongRecOn with
 |_ u ih=>
  intro c hc;rw[OP] at hc;split at hc
  .rename_i h
   rw[IY.1 hc,zE h];omega
  .rename_i h
   rcases List.mem_append.1 hc with hc|hc
   .exact ih (u/10) (by omega) c hc
   .rw[IY.1 hc,zE (by omega)]
    omega
theorem Nv(u:Nat):OP u≠[]:=by
 rw[OP];split<;>simp
theorem Nw{u:Nat}(hu:u<18446744073709551616):Lib.parseMag (OP u)=.ok u:=by
 unfold Lib.parseMag;rw[if_neg (Nv u)];have:=Xm u hu [];rw[JO] at this;rw[this];rfl
theorem Hx{n:Int}(h:gR n):Lib.atoiAll (QG n)=.ok n:=by
 unfold QG;obtain⟨h1,h2⟩:=h;split
 .rw[Lib.atoiAll_minus,Nw (by omega)]
  unfold Lib.signed;simp only;rw[if_neg (by omega)];congr 1;omega
 .cases hd:OP n.toNat with
  |nil=>exact absurd hd (Nv _)
  |cons c r=>
   have hc:=zF n.toNat c (by rw[hd];exact Jg);rw[Lib.atoiAll_plain c r (by omega) (by omega),<- hd,Nw (by omega)];unfold Lib.signless;simp only;rw[if_neg (by omega)];congr 1;omega
theorem Hy(n:Int):∀c∈QG n,c≠59:=by
 intro c hc;unfold QG at hc;split at hc
 .rcases IN.1 hc with rfl|hc
  .decide
  .have:=zF _ c hc
   intro e;subst e
   have:(59:UInt8).toNat=59:=rfl
   omega
 .have:=zF _ c hc
  intro e;subst e
  have:(59:UInt8).toNat=59:=rfl
  omega
theorem Vu:∀(l r:List UInt8),(∀c∈l,c≠59)->Jm (l++59::r) 59=(l.length:Int)
 |[],r,_=>by
  unfold Jm;simp
 |x::l,r,h=>by
  have ih:=Vu l r (λc hc=>h c (Jl _ hc));have hx:=h x Jg;rw[List.cons_append,Jm,if_neg (by simpa using hx),ih,if_neg (by simp)];rw[Iy];omega
theorem FC(c:UInt8):∀{l:List UInt8} {i:Nat},Jm l c=(i:Int)->l=l.take i++c::l.drop (i+1)
 |[],i,h=>by unfold Jm at h;omega
 |x::r,i,h=>by
  unfold Jm at h;split at h
  .rename_i hx
   have hi:i=0:=by omega
   subst hi
   have:x=c:=by simpa using hx
   rw[this];simp
  .split at h
   .omega
   .rename_i h2
    have hg:=Q5 r c
    obtain⟨j,rfl⟩:∃j,i=j+1:=⟨i-1,by have:Jm r c ≠ -1:=by simpa using h2
                                    omega⟩
    have:=FC c (l:=r) (i:=j) (by omega);rw[List.take_succ_cons,List.drop_succ_cons,List.cons_append,<- this]
theorem eo{n:Int}(h:gR n)(r:List UInt8):oD (gL n++r)=AI (n,r):=by
 unfold oD gL;rw[Iq,O4,Vu _ r (Hy n),if_neg (by omega),JR,List.take_left,Hx h];simp only[if_true];congr 2;have e:QG n++59::r=(QG n++[59])++r:=by simp
 rw[e,List.drop_left' (by simp)]
theorem fB{l r:List UInt8}{n:Int}(h:oD l=AI (n,r)):l=gL n++r/\gR n:=by
 have o5:=(dG h).1;unfold oD at h;split at h
 .simp at h
 rename_i aP;obtain⟨i,hi⟩:∃i:Nat,Jm l 59=(i:Int):=⟨(Jm l 59).toNat,by have:=Q5 l 59;omega⟩;rw[hi] at h;simp only[JR] at h;split at h
 case h_2=>simp at h
 rename_i m hm;split at h
 case isFalse=>simp at h
 rename_i hd;simp only[Iu,IU] at h;obtain⟨rfl,rfl⟩:=h;refine⟨?_,o5⟩;unfold gL;rw[hd,Iq,O4];exact FC 59 hi
theorem lM{s:ByteArray}(h:s.size<=140737488355328)(r:List UInt8):Bw (nT s++r)=AI (s,r):=by
 unfold Bw nT;rw[Iq,eo ⟨by omega,by omega⟩];simp only;have hl:s.data.toList.length=s.size:=rfl;rw[if_pos ⟨by omega,by rw[Ii];omega⟩,JR,List.take_left' hl,List.drop_left' hl];rfl
theorem oE{l r:List UInt8}{s:ByteArray}(h:Bw l=AI (s,r)):l=nT s++r:=by
 unfold Bw at h;split at h
 case h_2=>simp at h
 rename_i n r' hn;split at h
 case isFalse=>simp at h
 rename_i hk;simp only[Iu,IU] at h;obtain⟨rfl,rfl⟩:=h;have e:=(fB hn).1;unfold nT;rw[kD,List.length_take,Nat.min_eq_left (by omega),mu,Iq,List.take_append_drop,show((n.toNat:Nat):Int)=n by omega];exact e
theorem uo(y:Bool)(r:List UInt8):Ht (zx y++r)=AI (y,r):=by
 unfold Ht zx;rw[eo (by split<;>exact⟨by omega,by omega⟩)];cases y<;>simp
theorem zG{l r:List UInt8}{y:Bool}(h:Ht l=AI (y,r)):l=zx y++r:=by
 unfold Ht at h;split at h
 case h_2=>simp at h
 rename_i n r' hn;have e:=(fB hn).1;unfold zx;split at h
 .rename_i h0
  simp only[Iu,IU] at h;obtain⟨rfl,rfl⟩:=h;rw[e,h0];simp
 .split at h
  .rename_i h1
   simp only[Iu,IU] at h;obtain⟨rfl,rfl⟩:=h;rw[e,h1];simp
  .simp at h
theorem Ny{x y z u v:Int}(h1:gR x)(h2:gR y)(h3:gR z)(h4:gR u)(h5:gR v)(r:List UInt8):Rf ([x,y,z,u,v].flatMap gL++r)=AI ((x,y,z,u,v),r):=by
 unfold Rf;simp only[I4,OB,JO,Iq,eo h1,eo h2,eo h3,eo h4,eo h5,Jo]
theorem Xn{l r:List UInt8}{x y z u v:Int}(h:Rf l=AI ((x,y,z,u,v),r)):l=[x,y,z,u,v].flatMap gL++r:=by
 unfold Rf at h;simp only[Iz,Iu,IU] at h;obtain⟨⟨x',r1⟩,n1,⟨y',r2⟩,n2,⟨z',r3⟩,n3,⟨u',r4⟩,n4,⟨v',r5⟩,n5,⟨rfl,rfl,rfl,rfl,rfl⟩,rfl⟩:=h;simp only at n1 n2 n3 n4 n5 ⊢;have e1:=(fB n1).1;have e2:=(fB n2).1;have e3:=(fB n3).1;have e4:=(fB n4).1;have e5:=(fB n5).1;simp only[I4,OB,JO,Iq];rw[e1,e2,e3,e4,e5]
theorem nB{m:Mem}(h:lK m)(r:List UInt8):eT (iI m++r)=AI (m,r):=by
 obtain⟨h0,h1,h2,h3⟩:=h;unfold eT iI;simp only[I4,OB,JO,Iq,lM (s:=m.name) (by omega),eo h1,eo h2,eo h3,uo m.server,Jo]
theorem nC{l r:List UInt8}{m:Mem}(h:eT l=AI (m,r)):l=iI m++r:=by
 unfold eT at h;simp only[Iz,Iu,IU] at h;obtain⟨⟨x0,r1⟩,n0,⟨x1,r2⟩,n1,⟨x2,r3⟩,n2,⟨x3,r4⟩,n3,⟨x4,r5⟩,n4,rfl,rfl⟩:=h;simp only at n0 n1 n2 n3 n4 ⊢;have e0:=oE n0;have e1:=(fB n1).1;have e2:=(fB n2).1;have e3:=(fB n3).1;have e4:=zG n4;unfold iI;simp only[I4,OB,JO,Iq];rw[e0,e1,e2,e3,e4]
theorem iU:∀(E:List Mem),(∀m∈E,lK m)->∀(D:List Mem) (r:List UInt8),dW E.length (E.flatMap iI++r) D=AI (D++E,r)
 |[],_,D,r=>by simp[dW]
 |m::E,h,D,r=>by
  rw[I4,Iq,Iy,dW,nB (h m Jg),Jo];simp only;rw[iU E (λx hx=>h x (Jl _ hx)) (D++[m]) r,Iq];rfl
theorem iV:∀{n:Nat} {l r:List UInt8} {D E:List Mem},dW n l D=AI (E,r)->∃X:List Mem,X.length=n/\E=D++X/\l=X.flatMap iI++r
 |0,l,r,D,E,h=>by
  simp only[dW,Iu,IU] at h;obtain⟨rfl,rfl⟩:=h;exact⟨[],rfl,by simp,by simp⟩
 |n+1,l,r,D,E,h=>by
  obtain⟨⟨m,r'⟩,he,h⟩:=Iz.1 h;obtain⟨X,h1,h2,h3⟩:=iV h;exact⟨m::X,by simp[h1],by rw[h2];simp,by rw[nC he,show r'=_ from h3,I4,Iq]⟩
theorem jy{E:List Mem}(hl:E.length<=1000)(h:∀m∈E,lK m)(r:List UInt8):cy (gL E.length++E.flatMap iI++r)=AI (E,r):=by
 unfold cy;rw[Iq,eo ⟨by omega,by omega⟩,Jo];simp only;rw[if_pos (by omega),JR,iU E h [] r];rfl
theorem jz{l r:List UInt8}{E:List Mem}(h:cy l=AI (E,r)):l=gL E.length++E.flatMap iI++r:=by
 unfold cy at h;rw[Iz] at h;obtain⟨⟨n,r1⟩,h1,h2⟩:=h;simp only at h2;split at h2
 .rename_i h0
  obtain⟨X,g1,g2,g3⟩:=iV h2;rw[QE] at g2;subst g2;rw[(fB h1).1,g3,g1,show((n.toNat:Nat):Int)=n by omega,Iq]
 .cases h2
namespace Sv
theorem nB{m:aV}(h:lK m)(r:List UInt8):eT (iI m++r)=AI (m,r):=by
 obtain⟨h0,h1,h2,h3,h4,h5,h6⟩:=h;unfold eT iI;simp only[I4,OB,JO,Iq,lM (s:=m.node) (by omega),lM (s:=m.bf) (by omega),lM (s:=m.name) (by omega),lM (s:=m.tag) (by omega),eo h4,eo h5,uo m.af,eo h6,uo m.gone,Jo]
theorem nC{l r:List UInt8}{m:aV}(h:eT l=AI (m,r)):l=iI m++r:=by
 unfold eT at h;simp only[Iz,Iu,IU] at h;obtain⟨⟨x0,r1⟩,n0,⟨x1,r2⟩,n1,⟨x2,r3⟩,n2,⟨x3,r4⟩,n3,⟨x4,r5⟩,n4,⟨x5,r6⟩,n5,⟨x6,r7⟩,n6,⟨x7,r8⟩,n7,⟨x8,r9⟩,n8,rfl,rfl⟩:=h;simp only at n0 n1 n2 n3 n4 n5 n6 n7 n8 ⊢;have e0:=oE n0;have e1:=oE n1;have e2:=oE n2;have e3:=oE n3;have e4:=(fB n4).1;have e5:=(fB n5).1;have e6:=zG n6;have e7:=(fB n7).1;have e8:=zG n8;unfold iI;simp only[I4,OB,JO,Iq];rw[e0,e1,e2,e3,e4,e5,e6,e7,e8]
theorem iU:∀(E:List aV),(∀m∈E,lK m)->∀(D:List aV) (r:List UInt8),dW E.length (E.flatMap iI++r) D=AI (D++E,r)
 |[],_,D,r=>by simp[dW]
 |m::E,h,D,r=>by
  rw[I4,Iq,Iy,dW,nB (h m Jg),Jo];simp only;rw[iU E (λx hx=>h x (Jl _ hx)) (D++[m]) r,Iq];rfl
theorem iV:∀{n:Nat} {l r:List UInt8} {D E:List aV},dW n l D=AI (E,r)->∃X:List aV,X.length=n/\E=D++X/\l=X.flatMap iI++r
 |0,l,r,D,E,h=>by
  simp only[dW,Iu,IU] at h;obtain⟨rfl,rfl⟩:=h;exact⟨[],rfl,by simp,by simp⟩
 |n+1,l,r,D,E,h=>by
  obtain⟨⟨m,r'⟩,he,h⟩:=Iz.1 h;obtain⟨X,h1,h2,h3⟩:=iV h;exact⟨m::X,by simp[h1],by rw[h2];simp,by rw[nC he,show r'=_ from h3,I4,Iq]⟩
theorem jy{E:List aV}(hl:E.length<=1000)(h:∀m∈E,lK m)(r:List UInt8):cy (gL E.length++E.flatMap iI++r)=AI (E,r):=by
 unfold cy;rw[Iq,eo ⟨by omega,by omega⟩,Jo];simp only;rw[if_pos (by omega),JR,iU E h [] r];rfl
theorem jz{l r:List UInt8}{E:List aV}(h:cy l=AI (E,r)):l=gL E.length++E.flatMap iI++r:=by
 unfold cy at h;rw[Iz] at h;obtain⟨⟨n,r1⟩,h1,h2⟩:=h;simp only at h2;split at h2
 .rename_i h0
  obtain⟨X,g1,g2,g3⟩:=iV h2;rw[QE] at g2;subst g2;rw[(fB h1).1,g3,g1,show((n.toNat:Nat):Int)=n by omega,Iq]
 .cases h2
end Sv
namespace Gw
theorem nB{m:bN}(h:lK m)(r:List UInt8):eT (iI m++r)=AI (m,r):=by
 obtain⟨h0,h1,h2⟩:=h;unfold eT iI;simp only[I4,OB,JO,Iq,lM (s:=m.av) (by omega),eo h1,eo h2,Jo]
theorem nC{l r:List UInt8}{m:bN}(h:eT l=AI (m,r)):l=iI m++r:=by
 unfold eT at h;simp only[Iz,Iu,IU] at h;obtain⟨⟨x0,r1⟩,n0,⟨x1,r2⟩,n1,⟨x2,r3⟩,n2,rfl,rfl⟩:=h;simp only at n0 n1 n2 ⊢;have e0:=oE n0;have e1:=(fB n1).1;have e2:=(fB n2).1;unfold iI;simp only[I4,OB,JO,Iq];rw[e0,e1,e2]
theorem iU:∀(E:List bN),(∀m∈E,lK m)->∀(D:List bN) (r:List UInt8),dW E.length (E.flatMap iI++r) D=AI (D++E,r)
 |[],_,D,r=>by simp[dW]
 |m::E,h,D,r=>by
  rw[I4,Iq,Iy,dW,nB (h m Jg),Jo];simp only;rw[iU E (λx hx=>h x (Jl _ hx)) (D++[m]) r,Iq];rfl
theorem iV:∀{n:Nat} {l r:List UInt8} {D E:List bN},dW n l D=AI (E,r)->∃X:List bN,X.length=n/\E=D++X/\l=X.flatMap iI++r
 |0,l,r,D,E,h=>by
  simp only[dW,Iu,IU] at h;obtain⟨rfl,rfl⟩:=h;exact⟨[],rfl,by simp,by simp⟩
 |n+1,l,r,D,E,h=>by
  obtain⟨⟨m,r'⟩,he,h⟩:=Iz.1 h;obtain⟨X,h1,h2,h3⟩:=iV h;exact⟨m::X,by simp[h1],by rw[h2];simp,by rw[nC he,show r'=_ from h3,I4,Iq]⟩
theorem jy{E:List bN}(hl:E.length<=1000)(h:∀m∈E,lK m)(r:List UInt8):cy (gL E.length++E.flatMap iI++r)=AI (E,r):=by
 unfold cy;rw[Iq,eo ⟨by omega,by omega⟩,Jo];simp only;rw[if_pos (by omega),JR,iU E h [] r];rfl
theorem jz{l r:List UInt8}{E:List bN}(h:cy l=AI (E,r)):l=gL E.length++E.flatMap iI++r:=by
 unfold cy at h;rw[Iz] at h;obtain⟨⟨n,r1⟩,h1,h2⟩:=h;simp only at h2;split at h2
 .rename_i h0
  obtain⟨X,g1,g2,g3⟩:=iV h2;rw[QE] at g2;subst g2;rw[(fB h1).1,g3,g1,show((n.toNat:Nat):Int)=n by omega,Iq]
 .cases h2
end Gw
namespace Wh
theorem nB{m:bT}(h:lK m)(r:List UInt8):eT (iI m++r)=AI (m,r):=by
 obtain⟨h0,h1,h2,h3,h4,h5⟩:=h;unfold eT iI;rw[Iq,lM (s:=m.node) (by omega),Jo];simp only;rw[Ny h1 h2 h3 h4 h5,Jo]
theorem nC{l r:List UInt8}{m:bT}(h:eT l=AI (m,r)):l=iI m++r:=by
 unfold eT at h;simp only[Iz,Iu,IU] at h;obtain⟨⟨x0,r1⟩,n0,⟨⟨x1,x2,x3,x4,x5⟩,r2⟩,n1,rfl,rfl⟩:=h;simp only at n0 n1 ⊢;unfold iI;rw[oE n0,Xn n1,Iq]
theorem iU:∀(E:List bT),(∀m∈E,lK m)->∀(D:List bT) (r:List UInt8),dW E.length (E.flatMap iI++r) D=AI (D++E,r)
 |[],_,D,r=>by simp[dW]
 |m::E,h,D,r=>by
  rw[I4,Iq,Iy,dW,nB (h m Jg),Jo];simp only;rw[iU E (λx hx=>h x (Jl _ hx)) (D++[m]) r,Iq];rfl
theorem iV:∀{n:Nat} {l r:List UInt8} {D E:List bT},dW n l D=AI (E,r)->∃X:List bT,X.length=n/\E=D++X/\l=X.flatMap iI++r
 |0,l,r,D,E,h=>by
  simp only[dW,Iu,IU] at h;obtain⟨rfl,rfl⟩:=h;exact⟨[],rfl,by simp,by simp⟩
 |n+1,l,r,D,E,h=>by
  obtain⟨⟨m,r'⟩,he,h⟩:=Iz.1 h;obtain⟨X,h1,h2,h3⟩:=iV h;exact⟨m::X,by simp[h1],by rw[h2];simp,by rw[nC he,show r'=_ from h3,I4,Iq]⟩
theorem jy{E:List bT}(hl:E.length<=1000)(h:∀m∈E,lK m)(r:List UInt8):cy (gL E.length++E.flatMap iI++r)=AI (E,r):=by
 unfold cy;rw[Iq,eo ⟨by omega,by omega⟩,Jo];simp only;rw[if_pos (by omega),JR,iU E h [] r];rfl
theorem jz{l r:List UInt8}{E:List bT}(h:cy l=AI (E,r)):l=gL E.length++E.flatMap iI++r:=by
 unfold cy at h;rw[Iz] at h;obtain⟨⟨n,r1⟩,h1,h2⟩:=h;simp only at h2;split at h2
 .rename_i h0
  obtain⟨X,g1,g2,g3⟩:=iV h2;rw[QE] at g2;subst g2;rw[(fB h1).1,g3,g1,show((n.toNat:Nat):Int)=n by omega,Iq]
 .cases h2
end Wh
theorem Xo{p:Pk}(h:p.Wok)(r:List UInt8):xt (p.B++r)=AI (p,r):=by
 unfold xt Pk.B;rw[Iq,Iq,Iq,Iq,Iq,lM (by have:=h.du;omega),Jo];simp only;rw[uo,Jo];simp only;rw[jy (by have:=h.ms.1;omega) h.ms.2,Jo];simp only;rw[Sv.jy (by have:=h.sv.1;omega) h.sv.2,Jo];simp only;rw[Gw.jy (by have:=h.gw.1;omega) h.gw.2,Jo];simp only;rw[Wh.jy (by have:=h.wh.1;omega) h.wh.2,Jo]
theorem FD{l r:List UInt8}{p:Pk}(h:xt l=AI (p,r)):l=p.B++r:=by
 unfold xt at h;simp only[Iz,Iu,IU] at h;obtain⟨⟨x0,r1⟩,n0,⟨x1,r2⟩,n1,⟨x2,r3⟩,n2,⟨x3,r4⟩,n3,⟨x4,r5⟩,n4,⟨x5,r6⟩,n5,rfl,rfl⟩:=h;simp only at n0 n1 n2 n3 n4 n5 ⊢;have e0:=oE n0;have e1:=zG n1;have e2:=jz n2;have e3:=Sv.jz n3;have e4:=Gw.jz n4;have e5:=Wh.jz n5;unfold Pk.B;simp only[Iq] at e2 e3 e4 e5 ⊢;rw[e0,e1,e2,e3,e4,e5]
def sx(l:List UInt8):Option Pk:=(xt l).bind λa=>if a.2=[]/\a.1.e=0 then AI a.1 else be
theorem lh{l:List UInt8}{p:Pk}:sx l=AI p↔l=p.B/\p.e=0:=by
 unfold sx;rw[Iz];constructor
 .rintro⟨⟨q,r⟩,h1,h2⟩
  simp only at h2;split at h2
  .rename_i h3
   simp only[Iu] at h2;subst h2;have:=FD h1;rw[h3.1,JO] at this;exact⟨this,h3.2⟩
  .cases h2
 .rintro⟨rfl,he⟩
  have:=Xo (qK he) [];rw[JO] at this;exact⟨(p,[]),this,by simp[he]⟩
structure Nt where
 ns:List Nd
 ls:List Lt.fy
def aM:Nd:=⟨⟨#[]⟩,⟨#[]⟩,[],[],[],[],⟨0,0,0,0,0⟩,[]⟩
def iW(ns:List Nd):Prop:=∀i j,i<j->j<ns.length->(ns.getD i aM).name≠(ns.getD j aM).name
def apN(ns:List Nd):Bool:=(JC ns.length).all λj=>(JC j).all λi=>decide ((ns.getD i aM).name≠(ns.getD j aM).name)
theorem zH(ns:List Nd):apN ns=true↔iW ns:=by
 simp only[apN,List.all_eq_true,List.mem_range,decide_eq_true_eq];exact⟨λh i j jS hj=>h j hj i jS,λh j hj i jS=>h i j jS hj⟩
def pG{α:Type}(f:α->Int):List α->Int
 |[]=>0
 |x::r=>if f x=0 then pG f r else f x
theorem zI{α:Type}(f:α->Int)(d:α):∀(l:List α) (k:Nat),k<l.length->(∀j,j<k->f (l.getD j d)=0)->f (l.getD k d)≠0->pG f l=f (l.getD k d)
 |[],k,hk,_,_=>by simp at hk
 |x::r,0,_,_,aP=>by
  have:f x≠0:=by simpa using aP
  simp only[pG];rw[if_neg this];simp
 |x::r,k+1,hk,hz,aP=>by
  have h0:f x=0:=by simpa using hz 0 (by omega)
  simp only[pG];rw[if_pos h0,zI f d r k (by simpa using hk) (λj hj=>by simpa using hz (j+1) (by omega)) (by simpa using aP)];simp
theorem pc{α:Type}(f:α->Int)(d:α):∀(l:List α),(∀j,j<l.length->f (l.getD j d)=0)->pG f l=0
 |[],_=>rfl
 |x::r,h=>by
  have h0:f x=0:=by simpa using h 0 (by simp)
  simp only[pG];rw[if_pos h0];exact pc f d r (λj hj=>by simpa using h (j+1) (by simpa using hj))
theorem vI{α:Type}(f:α->Int):∀{l:List α},pG f l=0->∀x∈l,f x=0
 |y::r,h,x,hx=>by
  simp only[pG] at h;split at h
  .rename_i h0
   rcases IN.1 hx with rfl|hx
   .exact h0
   .exact vI f h x hx
  .rename_i h0;exact absurd h h0
def xu(k:Nat)(l:Lt.fy):Int:=if within l.to 0 ((k:Int)-1)=true then(if(sx l.text.data.toList).isSome=true then 0 else 1) else 3
def lD(ns:List Nd):Int:=if pG Nd.e ns=0 then(if apN ns=true then 0 else 6) else pG Nd.e ns
def Nt.e(t:Nt):Int:=if 6<t.ns.length\/20<t.ls.length then 2 else if lD t.ns=0 then pG (xu t.ns.length) t.ls else lD t.ns
theorem Xp{ns:List Nd}{k:Nat}(hk:k<ns.length)(hz:∀j,j<k->(ns.getD j aM).e=0)(aP:(ns.getD k aM).e≠0):lD ns=(ns.getD k aM).e:=by
 have h:=zI Nd.e aM ns k hk hz aP;rw[lD,h,if_neg aP]
theorem DL{ns:List Nd}(hz:∀j,j<ns.length->(ns.getD j aM).e=0)(hd:¬ iW ns):lD ns=6:=by
 rw[lD,if_pos (pc _ aM ns hz),if_neg (λh=>hd ((zH ns).1 h))]
theorem FE{ns:List Nd}(hz:∀j,j<ns.length->(ns.getD j aM).e=0)(hd:iW ns):lD ns=0:=by
 rw[lD,if_pos (pc _ aM ns hz),if_pos ((zH ns).2 hd)]
def tX(w:World)(b off:Nat)(ns:List Nd):Prop:=∀j,j<ns.length->∃vm vr vs vg vw,eY w (ns.getD j aM) vm vr vs vg vw/\∀i,i<12->w.cell? ⟨b,off+j*12+i,be⟩=(dE (ns.getD j aM) vm vr vs vg vw)[i]?
theorem tX.below{w w':World}{b off:Nat}{ns:List Nd}(h:tX w b off ns)(hb:Below w.heap.size w w')(hl:b<w.heap.size):tX w' b off ns:=λj hj=>by
 obtain⟨vm,vr,vs,vg,vw,h1,h2⟩:=h j hj;exact⟨vm,vr,vs,vg,vw,h1.below hb,λi hi=>(hb.cell (p:=⟨b,off+j*12+i,be⟩) hl).trans (h2 i hi)⟩
def xv(w:World)(v:Value)(ns:List Nd):Prop:=∃(a:Option Addr) (cap:Nat),v=J a ns.length cap/\(ns=[]\/∃b off,a=AI ⟨b,off,be⟩/\b<w.heap.size/\tX w b off ns)
theorem xv.below{w w':World}{v:Value}{ns:List Nd}(h:xv w v ns)(hb:Below w.heap.size w w'):xv w' v ns:=by
 obtain⟨a,cap,rfl,h⟩:=h;refine⟨a,cap,rfl,?_⟩;rcases h with h|⟨b,off,rfl,hl,hr⟩
 .exact .inl h
 .exact .inr ⟨b,off,rfl,IJ hl hb.size,hr.below hb hl⟩
theorem tX.at{w:World}{b off k:Nat}{ns:List Nd}(h:tX w b off ns)(hk:k<ns.length):∃vm vr vs vg vw,eY w (ns.getD k aM) vm vr vs vg vw/\w.cell? ⟨b,off+k*12,be⟩=AI (Y (ns.getD k aM).name)/\w.cell? ⟨b,off+k*12+1,be⟩=AI (Y (ns.getD k aM).av)/\w.cell? ⟨b,off+k*12+2,be⟩=AI vm/\w.cell? ⟨b,off+k*12+3,be⟩=AI vr/\w.cell? ⟨b,off+k*12+4,be⟩=AI vs/\w.cell? ⟨b,off+k*12+5,be⟩=AI vg/\w.cell? ⟨b,off+k*12+6,be⟩=AI (U O (ns.getD k aM).p.x)/\w.cell? ⟨b,off+k*12+7,be⟩=AI (U O (ns.getD k aM).p.y)/\w.cell? ⟨b,off+k*12+8,be⟩=AI (U O (ns.getD k aM).p.z)/\w.cell? ⟨b,off+k*12+9,be⟩=AI (U O (ns.getD k aM).p.h)/\w.cell? ⟨b,off+k*12+10,be⟩=AI (U O (ns.getD k aM).p.s)/\w.cell? ⟨b,off+k*12+11,be⟩=AI vw:=by
 obtain⟨vm,vr,vs,vg,vw,h1,h2⟩:=h k hk;exact⟨vm,vr,vs,vg,vw,h1,h2 0 (by omega),h2 1 (by omega),h2 2 (by omega),h2 3 (by omega),h2 4 (by omega),h2 5 (by omega),h2 6 (by omega),h2 7 (by omega),h2 8 (by omega),h2 9 (by omega),h2 10 (by omega),h2 11 (by omega)⟩
theorem Rp.aF{g:Nat}{w w1:World}(h:Rp g w w1)(L:List Value):Rp g w (aF g L 0 w1):=by
 obtain⟨h1,h2,h3⟩:=sU g L 0 w1;exact⟨h1.trans h.os,h2.trans h.tape,h3.trans h.output,by rw[gp];exact h.size,λk hk hg=>(bc hg L 0 w1).trans (h.block k hk hg)⟩
theorem pd{base n k:Nat}{T:TypeId}{w:World}{v:Value}{xs:List Value}(h:w.ownsRow base T k v n xs):Roomy v:=by
 rcases h.2 with⟨rfl,h0⟩|⟨g,c,cur,rfl,eX,hg,gK,et,cE,bo⟩
 .unfold Roomy;exact Ie _
 .unfold Roomy;exact gK
theorem iB.mono{a b:Nat}{w:World}{p:Pk}{vm vs vg vw:Value}(h:iB b w p vm vs vg vw)(xl:a<=b):iB a w p vm vs vg vw:=⟨h.ms.mono xl,h.sv.mono xl,h.gw.mono xl,h.wh.mono xl⟩
theorem SA{l r:List UInt8}{p:Pk}(h:xt l=AI (p,r))(hl:l.length<=16777216):p.du.size<=Io/\(∀m∈p.ms,m.name.size<=Io)/\(∀m∈p.sv,m.node.size<=Io/\m.bf.size<=Io/\m.name.size<=Io/\m.tag.size<=Io)/\(∀m∈p.gw,m.av.size<=Io)/\(∀m∈p.wh,m.node.size<=Io):=by
 unfold xt at h;simp only[Iz,Iu,IU] at h;obtain⟨⟨x0,r1⟩,n0,⟨x1,r2⟩,n1,⟨x2,r3⟩,n2,⟨x3,r4⟩,n3,⟨x4,r5⟩,n4,⟨x5,r6⟩,n5,rfl,rfl⟩:=h;simp only at n0 n1 n2 n3 n4 n5 ⊢;have e0:=lV n0;have e1:=sS n1;have e2:=fg n2 (by omega);have e3:=Sv.fg n3 (by omega);have e4:=Gw.fg n4 (by omega);have e5:=Wh.fg n5 (by omega);refine⟨by unfold Io;omega,e2.1,e3.1,e4.1,e5.1⟩
theorem acn{l r:List UInt8}{p:Pk}(h:xt l=AI (p,r))(hl:l.length<=16777216):p.sv.length+p.gw.length+p.wh.length<=16777216:=by
 have e:=FD h;have hS:∀m:Sv.aV,1<=(Sv.iI m).length:=λm=>by unfold Sv.iI nT gL;simp only[Ii,Og];omega
 have hG:∀m:Gw.bN,1<=(Gw.iI m).length:=λm=>by unfold Gw.iI nT gL;simp only[Ii,Og];omega
 have hW:∀m:Wh.bT,1<=(Wh.iI m).length:=λm=>by unfold Wh.iI nT gL;simp only[Ii,Og];omega
 have fl:∀{α:Type} (f:α->List UInt8),(∀m,1<=(f m).length)->∀L:List α,L.length<=(L.flatMap f).length:=λf hf L=>by
  induction L with
  |nil=>simp
  |cons m L ih=>rw[I4,Ii,Iy];have:=hf m;omega
 have h1:=fl Sv.iI hS p.sv;have h2:=fl Gw.iI hG p.gw;have h3:=fl Wh.iI hW p.wh;have h4:=congrArg List.length e;unfold Pk.B at h4;simp only[Ii] at h4;omega
theorem SB{B cs cp:Nat}{l:List UInt8}{p:Pk}{w:World}(hV:Rv B w)(hs:l.length<=16777216)(cE:w.cell? ⟨cs,0,be⟩=AI (Y (gG l)))(DM:w.heap[cp]?=AI (By #[Y ⟨#[]⟩,Ia false,J be 0 0,J be 0 0,J be 0 0,J be 0 0] 61 (0,0)))(hn:sx l=AI p) :
 Calls AS 180 #[If (AI ⟨cs,0,be⟩),If (AI ⟨cp,0,be⟩)] w λe w'=>e=AT (Ip #[])/\Rp cp w w'/\∃vm vs vg vw,w'.heap[cp]?=AI (By #[Y p.du,Ia p.whole,vm,vs,vg,vw] 61 (0,0))/\iB (w.heap.size+1) w' p vm vs vg vw:=by
 unfold sx at hn;obtain⟨⟨p',r⟩,hn,he⟩:=Iz.1 hn;simp only at he;split at he
 case isFalse=>cases he
 rename_i hre;obtain⟨rfl,Fl⟩:=hre;cases he
 have aia:=(BY.1 DM).1;obtain⟨W0,bP,bK,fj,dX⟩:=bV w #[Y (gG l)] 213;have V6:lL w.heap.size l W0:=⟨ae dX 0,by simp[It,dX],by omega⟩;have HPK:Hid (Calls _ _ _ _ _):=Nu (hV.below (bK.mono hV.le)) hV.le V6 hs hn;have tW:Hid _:=fj;have Hz:Hid (∀W,Rp w.heap.size W0 W->W.heap[cp]?=AI (By #[Y ⟨#[]⟩,Ia false,J be 0 0,J be 0 0,J be 0 0,J be 0 0] 61 (0,0))):=λW hW=>hW.lW (by omega) ((bK.block cp aia).trans DM);have HIN:Hid _:=SA hn hs;have HIL:Hid _:=acn hn hs;have DN:Hid (Rp cp w W0):=Rp.cG bK (Ie _);have HPE:Hid _:=Fl;clear hV hs DM bK dX fj V6 hn Fl;go_enter Tryz.func180,Tryz.ntmps180;go_wp2_with fail;rw[<- bP];clear bP cE;refine HPK.out.mono ?_;rintro e w1 ⟨vm,vs,vg,vw,rfl,hr,ho,hp⟩;obtain⟨P7,gP⟩:=HIN.out;have hlen:=HIL.out;obtain⟨a2,l2,c2,rfl⟩:=bC ho.ms;obtain⟨a3,l3,c3,rfl⟩:=bC ho.sv;obtain⟨a4,l4,c4,rfl⟩:=bC ho.gw;obtain⟨a5,l5,c5,rfl⟩:=bC ho.wh;have kt:=Hz.out w1 hr;have ku:Rp cp w w1:=⟨hr.os.trans DN.out.os,hr.tape.trans DN.out.tape,hr.output.trans DN.out.output,Nat.le_trans DN.out.size hr.size,λk hk hkc=>(hr.block k (IJ hk DN.out.size) (by omega)).trans (DN.out.block k hk hkc)⟩;obtain⟨w2,uS⟩:∃w2,w2=aF cp [Y p.du,Ia p.whole,J a2 l2 c2,J a3 l3 c3,J a4 l4 c4,J a5 l5 c5] 0 w1:=⟨_,rfl⟩;have ji:w2.heap[cp]?=AI (By #[Y p.du,Ia p.whole,J a2 l2 c2,J a3 l3 c3,J a4 l4 c4,J a5 l5 c5] 61 (0,0)):=by rw[uS];exact rU kt _ _ _ _ _ _
 have mI:Rp cp w w2:=by rw[uS];exact ku.aF _
 have tw:∀b,b≠cp->w2.heap[b]?=w1.heap[b]?:=λb hb=>by rw[uS];exact bc hb _ _ _
 have pA:w2.heap.size=w1.heap.size:=by rw[uS];exact gp _ _ _ _
 have fS:iB (w.heap.size+1) w2 p (J a2 l2 c2) (J a3 l3 c3) (J a4 l4 c4) (J a5 l5 c5):=(ho.mono (by have:=tW.out;omega)).fN (λb hb _=>tw b (by omega));have his:lz w2 p (J a2 l2 c2) (J a3 l3 c3) (J a4 l4 c4) (J a5 l5 c5):=⟨bM fS.ms gP.1,Sv.bM fS.sv gP.2.1,Gw.bM fS.gw gP.2.2.1,Wh.bM fS.wh gP.2.2.2,P7,pd fS.ms⟩;have od:Hid (Calls AS 59 #[Ik #[Y p.du,Ia p.whole,J a2 l2 c2,J a3 l3 c3,J a4 l4 c4,J a5 l5 c5]] w2 λe w'=>e=AT (U O 0)/\Below w2.heap.size w2 w'):=(mU p _ _ _ _ w2 his (.inr (by omega))).mono (λe w' h=>⟨by rw[<- HPE.out];exact h.1,h.2⟩);have d2:w2.cell? ⟨w.heap.size,0,be⟩=AI (Y ⟨#[]⟩):=(cell_of (tw _ (by omega)) 0).trans hp.c0;have tQ:Hid (Rp cp w w2):=mI;have rm:Hid _:=ji;have ja:Hid (iB (w.heap.size+1) w2 p (J a2 l2 c2) (J a3 l3 c3) (J a4 l4 c4) (J a5 l5 c5)):=fS;have aib:Hid (∀w3,Below w2.heap.size w2 w3->Rp cp w w3/\∃vm vs vg vw,w3.heap[cp]?=AI (By #[Y p.du,Ia p.whole,vm,vs,vg,vw] 61 (0,0))/\iB (w.heap.size+1) w3 p vm vs vg vw):=λw3 hb=>
  ⟨tQ.out.trans (Rp.cG hb (Ie _)),_,_,_,_,(hb.block cp (BY.1 rm.out).1).trans rm.out,ja.out.fN (λb _ aO=>hb.block b aO)⟩
 obtain⟨b0,b1,b2,b3,b4,b5⟩:=ky kt;have z:=nA kt;obtain⟨f0,f1,f2,f3,f4,f5⟩:=ky ji;clear hr hp ho HPK HIN HIL Hz tW P7 gP hlen kt ku ji mI tw pA fS his tQ rm ja DN HPE;go_upto_region 2 with fail
 simp only[aF,ID,Jn] at uS;rw[<- uS];clear uS b0 b1 b2 b3 b4 b5 z;go_wp2_with fail;refine od.out.mono ?_;rintro e w3 ⟨rfl,bY⟩;have Bo:Hid _:=aib.out w3 bY;clear bY;go_wp2_with fail;refine(kx _ _).mono ?_;rintro e w4 ⟨rfl,Sz⟩;subst Sz;go_wp2_with fail;simp only[bodyPost,results,Tryz.results180];exact⟨trivial,Ip #[],by simp,rfl,Bo.out⟩
def vJ(w:World)(p:Pk)(e:Ending)(w':World):Prop:=
 Below w.heap.size w w'/\∃vm vs vg vw,e=AT (Ip #[Ik #[Y p.du,Ia p.whole,vm,vs,vg,vw],U O 0])/\iB w.heap.size w' p vm vs vg vw
theorem FF{B:Nat}{l:List UInt8}{p:Pk}{w:World}(hV:Rv B w)(hs:l.length<=16777216)(hn:sx l=AI p) :
 aK 121 #[Y (gG l)] w (vJ w p):=by
 have hmf:∀(fn:Fn) (first cap:Array Value) (w:World),(Instr.makeFunc fn first cap).run AS w=.ok (.func fn first cap) w:=λ_ _ _ _=>rfl;have ef:=enters_of Tryz.func180 (by kernel_rfl) rfl;obtain⟨W0,bP,bK,fj,k0,k1,k2⟩:=qN w #[Y (gG l)] #[Y ⟨#[]⟩,Ia false,J be 0 0,J be 0 0,J be 0 0,J be 0 0] #[Y ⟨#[]⟩,Ia false,J be 0 0,J be 0 0,J be 0 0,J be 0 0] 9 61 61;obtain⟨W1,db,aC,xe,ke⟩:=bV W0 #[U O 0] 32;have fO:W1.heap.size=w.heap.size+4:=by omega
 have Vv:Hid (aK _ _ _ _):=
  SB (hV.below ((bK.mono hV.le).trans (aC.mono (by have:=hV.le;omega)))) hs ((aC.cell (p:=⟨w.heap.size,0,be⟩) (by show w.heap.size<W0.heap.size;omega)).trans (ae k0 0)) ((aC.block _ (by omega)).trans k2) hn
 have HE:Hid (∀w',Rp (w.heap.size+2) W1 w'->w'.cell? ⟨W0.heap.size,0,be⟩=AI (U O 0)/\w'.frozen? ⟨W0.heap.size,0,be⟩=false/\W0.heap.size<w'.heap.size):=λw' hr=>by
  have e:=hr.lW (k:=W0.heap.size) (by omega) ke;exact⟨ae e 0,by simp[It,e],(BY.1 e).1⟩
 have nS:Hid (∀w',Rp (w.heap.size+2) W1 w'->w'.heap[w.heap.size+1]?=AI (By #[Y ⟨#[]⟩,Ia false,J be 0 0,J be 0 0,J be 0 0,J be 0 0] 61 (0,0))):=λw' hr=>hr.lW (by omega) ((aC.block _ (by omega)).trans k1);have qp:Hid (∀w',Rp (w.heap.size+2) W1 w'->Below w.heap.size w w'):=λw' hr=>(bK.trans (aC.mono (by omega))).trans (hr.below (B:=w.heap.size) (by omega) (by omega));have tW:Hid _:=fj;have vh:Hid _:=fO;clear hV hs bK aC k0 k1 k2 ke fj fO xe hn;have fm:Hid (aK 183 #[.func (.func 180) #[] #[If (AI ⟨w.heap.size,0,be⟩),If (AI ⟨w.heap.size+2,0,be⟩)]] W0 λr w'=>r=AT (U O 0)/\∃w1,(Rp (w.heap.size+2) W1 w1/\∃vm vs vg vw,w1.heap[w.heap.size+2]?=AI (By #[Y p.du,Ia p.whole,vm,vs,vg,vw] 61 (0,0))/\iB (W1.heap.size+1) w1 p vm vs vg vw)/\W0.heap.size<w1.heap.size/\w'=w1.setCell ⟨W0.heap.size,0,be⟩ (U O 0)):=
  Dz _ _ W0 (λw1=>Rp (w.heap.size+2) W1 w1/\∃vm vs vg vw,w1.heap[w.heap.size+2]?=AI (By #[Y p.du,Ia p.whole,vm,vs,vg,vw] 61 (0,0))/\iB (W1.heap.size+1) w1 p vm vs vg vw) ef (by
   rw[<- db];refine Vv.out.mono ?_;rintro e w' ⟨rfl,hr,vm,vs,vg,vw,h1,h2⟩;exact⟨rfl,⟨hr,vm,vs,vg,vw,h1,h2⟩,HE.out w' hr⟩)
 clear Vv db;go_enter Tryz.func121,Tryz.ntmps121;go_wp2_with fail;rw[<- bP];clear bP;refine fm.out.mono ?_;rintro e w2 ⟨rfl,w1,⟨hr,vm,vs,vg,vw,h1,h2⟩,aX,uS⟩;obtain⟨a2,l2,c2,rfl⟩:=bC h2.ms;obtain⟨a3,l3,c3,rfl⟩:=bC h2.sv;obtain⟨a4,l4,c4,rfl⟩:=bC h2.gw;obtain⟨a5,l5,c5,rfl⟩:=bC h2.wh;have eU:∀k,k≠W0.heap.size->w2.heap[k]?=w1.heap[k]?:=λk hk=>by rw[uS];exact Below.heap_setCell _ _ _ k hk
 have kt:=(eU _ (by have:=tW.out;omega)).trans (nS.out w1 hr);have ji:=(eU _ (by have:=tW.out;omega)).trans h1;have fS:=h2.fN (λb hb _=>eU b (by have:=tW.out;have:=vh.out;omega));have xK:Below w.heap.size w w2:=by
  have h:=qp.out w1 hr;rw[uS];exact h.setCell (p:=⟨W0.heap.size,0,be⟩) (by have:=tW.out;show w.heap.size<=W0.heap.size;omega) _
 obtain⟨w3,Vw⟩:∃w3,w3=aF (w.heap.size+1) [Y p.du,Ia p.whole,J a2 l2 c2,J a3 l3 c3,J a4 l4 c4,J a5 l5 c5] 0 w2:=⟨_,rfl⟩;have kV:w3.heap[w.heap.size+1]?=AI (By #[Y p.du,Ia p.whole,J a2 l2 c2,J a3 l3 c3,J a4 l4 c4,J a5 l5 c5] 61 (0,0)):=by rw[Vw];exact rU kt _ _ _ _ _ _
 have eG:Hid (iB w.heap.size w3 p (J a2 l2 c2) (J a3 l3 c3) (J a4 l4 c4) (J a5 l5 c5)):=(fS.fN (λb hb _=>by rw[Vw];exact bc (by have:=vh.out;omega) _ _ _)).mono (by have:=vh.out;omega);have cF:Hid (Below w.heap.size w w3):=by rw[Vw];exact aU (by omega) _ _ xK
 obtain⟨b0,b1,b2,b3,b4,b5⟩:=ky kt;have z:=nA kt;obtain⟨f0,f1,f2,f3,f4,f5⟩:=ky ji;obtain⟨g0,g1,g2,g3,g4,g5⟩:=ky kV;have iO:Hid (vJ w p (AT (Ip #[Ik #[Y p.du,Ia p.whole,J a2 l2 c2,J a3 l3 c3,J a4 l4 c4,J a5 l5 c5],U O 0])) w3):=⟨cF.out,_,_,_,_,rfl,eG.out⟩;clear eG cF fm kt ji kV fS xK eU h1 h2 hr aX uS HE nS qp tW vh;generalize hRS:vJ w p=Z at *;clear hRS;generalize p.du=q0 at *;generalize p.whole=q1 at *;go_wp2_with fail;simp only[aF,ID,Jn] at Vw;rw[<- Vw];clear Vw b0 b1 b2 b3 b4 b5 z f0 f1 f2 f3 f4 f5;exact bodyPost_ret (v:=Ip #[Ik #[Y q0,Ia q1,J a2 l2 c2,J a3 l3 c3,J a4 l4 c4,J a5 l5 c5],U O 0]) (by simp[results,Tryz.results121,go_sem,g0,g1,g2,g3,g4,g5]) rfl iO.out
end Go.Proofs.YtbfghimjdlpicaaGreatDoor
namespace Go.Proofs.YtbfghimjdlpicaaGreatDoor
open Go.RowKit Go.WideMaps Go.Maps
def oF(ns:List Nd):List ByteArray:=ns.map (·.name)
theorem jA(ns:List Nd)(k:Nat):(oF ns).getD k ByteArray.empty=(ns.getD k aM).name:=by
 by_cases h:k<ns.length
 .simp[oF,Ir,Ic h]
 .simp[oF,Ir,List.getElem?_eq_none (by omega:ns.length<=k),aM];rfl
theorem SC{D:DataW Unit}{ns:List Nd}(h:EK D (oF ns) ns.length)(hd:¬ iW ns):JK D<ns.length:=by
 rw[h.size];apply mQ;apply Classical.byContradiction;intro hx;apply hd;intro i j jS hj e;exact hx ⟨i,j,jS,hj,by rw[jA,jA];exact e⟩
theorem SD{D:DataW Unit}{ns:List Nd}(h:EK D (oF ns) ns.length)(hd:iW ns):JK D=ns.length:=by
 rw[h.size];exact mR _ _ (λi j jS hj=>by rw[jA,jA];exact hd i j jS hj)
theorem vK(ns:List Nd)(g:Nat)(v:Value)(w:World)(hv:xv w v ns)(hg:w.cell? ⟨g,0,be⟩=AI v)(AD:ns.length<=6) :
 Calls AS 71 #[If (AI ⟨g,0,be⟩)] w λe w'=>e=AT (U O (lD ns))/\Below w.heap.size w w':=by
 have dv:=Iw w _ hg;obtain⟨pa,ca,rfl,ha⟩:=hv;have HA:Hid _:=ha;clear ha;generalize hN:ns.length=n at *;have HN:Hid _:=hN;clear hN;have CC:=jU;go_enter Tryz.func71,Tryz.ntmps71;go_wp2;go_loopw [20] (λi wr=>∃k:Nat,k<=n/\i=U O k/\Hid (∀j,j<k->(ns.getD j aM).e=0)/\Hid (∃D,wr.ownsMap AS 9 (plainElem (H:=Unit) AS 3) w.heap.size k D/\EK D (oF ns) k)/\Hid (Below w.heap.size w wr)) (λi _=>n-(intOf i).toNat)
 case atStart=>exact⟨0,IF _,rfl,λj hj=>by omega,⟨_,World.ownsMap_made _ _ _ _,AO _⟩,(Ib _ _).alloc (Ie _) _⟩
 case round=>
  obtain⟨k,hk,rfl,HZ,HD,HB⟩:=hrel;obtain⟨D,HO,HC⟩:=HD.out;have HO:Hid (wr.ownsMap _ _ _ _ _ _):=HO;have HC:Hid _:=HC;clear HD;have P9:=(HB.out.cell (p:=⟨g,0,be⟩) dv).trans hg;by_cases aX:k<n
  .obtain⟨b,off,hp,hl,hr⟩:∃b off,pa=AI ⟨b,off,be⟩/\b<w.heap.size/\tX w b off ns:=by
    rcases HA.out with h|h
    .have:=HN.out;rw[h] at this;simp at this;omega
    .exact h
   subst hp;obtain⟨vm,vr,vs,vg,vw,GL,c0,c1,c2,c3,c4,c5,c6,c7,c8,c9,c10,c11⟩:=(hr.below HB.out hl).at (by rw[HN.out];exact aX);have HX:Hid ((ns.getD k aM).e≠0->lD ns=(ns.getD k aM).e):=λh=>Xp (by rw[HN.out];exact aX) HZ.out h;have ma:Hid ((ns.getD k aM).e=0->∀j,j<k+1->(ns.getD j aM).e=0):=λh j hj=>by
    by_cases e:j=k
    .subst e;exact h
    .exact HZ.out j (by omega)
   have HG:Hid (∀(c:Int),D.atKey (kS (ns.getD k aM).name) (.lit (.int O 0))=.lit (.int O c)->0<=c/\c<=k/\EK (D.put (kS (ns.getD k aM).name) (.lit (.int O (c+1)))) (oF ns) (k+1)):=λc hc=>by
    have h:=AP HC.out (c:=c) (by rw[jA];exact hc);rw[jA] at h;exact h
   have cB:=HB.out.size;generalize(ns.getD k aM)=nk at *;have cY:=GL.name;have od:Hid (∀W,Below wr.heap.size wr W->Calls _ _ _ _ _):=λW hW=>qo nk vm vr vs vg vw W (GL.below hW);obtain⟨⟨am,cm,ou,_,_⟩,⟨ar,cr,vc,_,_⟩,⟨ax,cx,tS,_,_⟩,⟨ag,cg,zk,_,_⟩,⟨aw,cw,LC,_,_⟩,_,_⟩:=GL;subst ou vc tS zk LC;generalize aP:nk.e=ne at *;clear aP;obtain⟨nm,ct,ms,rs,sv,gw,⟨px,py,pz,ph,pq⟩,wh⟩:=nk;simp only[dE] at c0 c1 c2 c3 c4 c5 c6 c7 c8 c9 c10 c11 cY HG od;have AR:=keyOf_string_mk Tryz.underlying9 cY;generalize ms.length=nms at *;generalize rs.length=nrs at *;generalize sv.length=nsv at *;generalize gw.length=ngw at *;generalize wh.length=nwh at *;clear hr HZ;have eJ:(k:Int)<n:=by omega
   obtain⟨W1,db⟩:∃W1,W1=wr.alloc (By #[Y nm,Y ct,J am nms cm,J ar nrs cr,J ax nsv cx,J ag ngw cg,U O px,U O py,U O pz,U O ph,U O pq,J aw nwh cw] 50):=⟨_,rfl⟩;have aC:Below wr.heap.size wr W1:=by rw[db];exact(Ib _ _).alloc (Ie _) _
   have lx:Hid (W1.heap[wr.heap.size]?=AI (By #[Y nm,Y ct,J am nms cm,J ar nrs cr,J ax nsv cx,J ag ngw cg,U O px,U O py,U O pz,U O ph,U O pq,J aw nwh cw] 50 (0,0))):=by rw[db];exact Ij wr _
   have aZ:Hid _:=aC;clear aC;go_upto_region 5 with fail
   rw[<- db];clear db c0 c1 c2 c3 c4 c5 c6 c7 c8 c9 c10 c11;obtain⟨d0,d1,d2,d3,d4,d5,d6,d7,d8,d9,d10,d11⟩:=bQ lx.out;go_wp2_with fail;refine(od.out W1 aZ.out).mono ?_;rintro e w1 ⟨rfl,aC⟩;have Ds:=aZ.out.trans (aC.mono aZ.out.size);have mT:Hid (w1.ownsMap _ _ _ _ _ _):=uI HO.out Ds;have SE:Hid _:=HB.out.trans (Ds.mono cB);have hm0:=ae ((aC.block _ (BY.1 lx.out).1).trans lx.out) 0;clear aC Ds d0 d1 d2 d3 d4 d5 d6 d7 d8 d9 d10 d11 HB HO od lx aZ P9;by_cases he:ne=0
   .have lE:(ne !=0)=false:=by simpa using he
    have qV:Hid _:=ma.out he;clear HX ma he;obtain⟨c,kO,cA,_⟩:=mT.out.lookup_int Gr JG IH (CD _) AR;obtain⟨g0,g1,g2⟩:=HG.out c cA;have yR:Hid _:=g2;clear g2 cA HG;go_wp2_with (first
     |(at_mapUpdate;refine wpList_mapUpdate_own _ rfl _ _ _ 166 rfl 9 3 Gr JG _ w.heap.size k _ rfl mT.out (by unfold Io;omega) _ _ _ rfl rfl AR _ [] (plainElem_int IH (WalkArith.wf_i64 (by omega))) ?_)
     |fail)
    intro w2 AU uJ;have R1:Hid (∃D,w2.ownsMap AS 9 (plainElem (H:=Unit) AS 3) w.heap.size (k+1) D/\EK D (oF ns) (k+1)):=⟨_,AU,yR.out⟩;have R2:Hid _:=SE.out.grown uJ SE.out.size (λj hj=>by cases hj;exact Ie _);clear AU uJ mT SE;go_wp2_with fail;go_roundw
    case rel=>exact⟨k+1,by omega,by go_num,qV,R1,R2⟩
    case measure=>simp[intOf];omega
   .have lE:(ne !=0)=true:=by simpa using he
    have HR:Hid _:=HX.out he;clear he HX ma;go_wp2_with fail;go_ret;exact⟨an HR.out.symm,SE.out⟩
  .have eJ:k=n:=by omega
   subst eJ;have jH:Hid (JK D<k↔¬ iW ns):=by
    have h1:=HC.out;rw[<- HN.out] at h1 ⊢;exact⟨λh hd=>by rw[SD h1 hd] at h;omega,λhd=>SC h1 hd⟩
   have yS:Hid (¬ iW ns->lD ns=6):=λhd=>DL (λj hj=>HZ.out j (by rw[<- HN.out];exact hj)) hd;have lP:Hid (iW ns->lD ns=0):=λhd=>FE (λj hj=>HZ.out j (by rw[<- HN.out];exact hj)) hd;by_cases hd:iW ns
   .have HE:Hid _:=lP.out hd
    have hs:=decide_eq_false (λh=>(jH.out.1 h) hd);have jb:¬ JK D<k:=λh=>(jH.out.1 h) hd;have Nz:∀q,(Builtin.len_ #[166] 3 #[.map (AI w.heap.size)]).run AS (wr.drewN q)=.ok (U O (JK D)) (wr.drewN q):=λq=>World.ownsMap.len (w:=wr.drewN q) HO.out JG 3;clear yS lP hd jH HZ;go_wp2_with fail;go_quiet (fail)
    go_wp2_with fail;go_ret;exact⟨an HE.out.symm,below_drewN HB.out _⟩
   .have HE:Hid _:=yS.out hd
    have hs:=decide_eq_true (jH.out.2 hd);have jb:=jH.out.2 hd;have Nz:∀q,(Builtin.len_ #[166] 3 #[.map (AI w.heap.size)]).run AS (wr.drewN q)=.ok (U O (JK D)) (wr.drewN q):=λq=>World.ownsMap.len (w:=wr.drewN q) HO.out JG 3;clear yS lP hd jH HZ;go_wp2_with fail;go_quiet (fail)
    go_wp2_with fail;go_ret;exact⟨an HE.out.symm,below_drewN HB.out _⟩
theorem nD(g n:Nat)(a:Option Addr)(cap:Nat)(x:Int)(w:World)(hg:w.cell? ⟨g,0,be⟩=AI (J a n cap))(hn:n<=6) :
 Calls AS 93 #[If (AI ⟨g,0,be⟩),U O x] w λe w'=>e=AT (Ia (within x 0 ((n:Int)-1)))/\Below w.heap.size w w':=by
 have h1:IntKind.i64.wrap ((n:Int)-1)=(n:Int)-1:=by rw[IntKind.wrap_i64];omega
 go_enter Tryz.func93,Tryz.ntmps93;go_wp2_with (go_at_call 51;refine(cM _ _ _ _).mono ?_;rintro e w' ⟨rfl,rfl⟩);go_ret;exact⟨rfl,Ib _ _⟩
theorem sV(ls:List Lt.fy)(n g:Nat)(a:Option Addr)(cap:Nat)(v:Value)(w:World)(hV:Rv w.heap.size w)(hv:Lt.Sl w v ls)(hg:w.cell? ⟨g,0,be⟩=AI (J a n cap))(cI:w.cell? ⟨g,1,be⟩=AI v)(AD:n<=6)(aic:ls.length<=20)(hts:∀l∈ls,l.text.size<=16777216)(h0:pG (xu n) ls=0) :
 Calls AS 72 #[If (AI ⟨g,0,be⟩)] w λe w'=>e=AT (U O 0)/\Below w.heap.size w w':=by
 have dv:=Iw w _ hg;obtain⟨pa,ca,rfl,_,ha⟩:=hv;have HA:Hid _:=ha;have HTS:Hid _:=hts;have HV:Hid _:=hV;have H0:Hid _:=h0;clear ha hts hV h0;generalize hN:ls.length=m at *;have HN:Hid _:=hN;clear hN;go_enter Tryz.func72,Tryz.ntmps72;go_wp2_with fail;go_loopw [13] (λi wr=>∃k:Nat,k<=m/\i=U O k/\Hid (∀j,j<k->xu n (ls.getD j Lt.dm)=0)/\Hid (Below w.heap.size w wr)) (λi _=>m-(intOf i).toNat)
 case atStart=>exact⟨0,IF _,rfl,λj hj=>by omega,Ib _ _⟩
 case round=>
  obtain⟨k,hk,rfl,HZ,HB⟩:=hrel;have cB:=HB.out.size;by_cases aX:k<m
  .obtain⟨b,off,hp,hl,hr⟩:∃b off,pa=AI ⟨b,off,be⟩/\b<w.heap.size/\Lt.Row w b off ls:=by
    rcases HA.out with h|h
    .have:=HN.out;rw[h] at this;simp at this;omega
    .exact h
   subst hp;obtain⟨c0,c1⟩:=(hr.later HB.out hl) k (by rw[HN.out];exact aX);have hle:xu n (ls.getD k Lt.dm)=0:=Decidable.byContradiction λh=>h ((zI _ Lt.dm ls k (by rw[HN.out];exact aX) HZ.out h).symm.trans H0.out);have qV:Hid (∀j,j<k+1->xu n (ls.getD j Lt.dm)=0):=λj hj=>by
    by_cases e:j=k
    .subst e;exact hle
    .exact HZ.out j (by omega)
   have hkt:(ls.getD k Lt.dm).text.size<=16777216:=by
    have SF:k<ls.length:=by rw[HN.out];exact aX
    apply HTS.out;rw[Ir,Ic SF];exact List.getElem_mem SF
   generalize ls.getD k Lt.dm=lk at *;obtain⟨t_o,tx⟩:=lk;simp only at c0 c1 hkt;have hle:(if within t_o 0 ((n:Int)-1)=true then(if(sx tx.data.toList).isSome=true then 0 else 1) else 3)=(0:Int):=hle;have hwi:within t_o 0 ((n:Int)-1)=true:=Decidable.byContradiction λh=>by rw[if_neg h] at hle;cases hle
   rw[if_pos hwi] at hle;obtain⟨p,hro⟩:∃p,sx tx.data.toList=AI p:=by
    cases hq:sx tx.data.toList with
    |some p=>exact⟨p,rfl⟩
    |none=>rw[hq] at hle;simp at hle
   obtain⟨W1,db⟩:∃W1,W1=wr.alloc (By #[U O t_o,Y tx] 92):=⟨_,rfl⟩;have aC:Below wr.heap.size wr W1:=by rw[db];exact(Ib _ _).alloc (Ie _) _
   have aZ:Hid _:=HB.out.trans (aC.mono cB);have lx:Hid (W1.heap[wr.heap.size]?=AI (By #[U O t_o,Y tx] 92 (0,0))):=by rw[db];exact Ij wr _
   have nL:Hid (Calls _ _ _ _ _):=hwi▸nD g n a cap t_o W1 ((aZ.out.cell (p:=⟨g,0,be⟩) dv).trans hg) AD;have Vv:Hid (∀W,Below W1.heap.size W1 W->Calls _ _ _ _ _):=λW hW=>FF (l:=tx.data.toList) ((HV.out.after aZ.out).after hW) hkt hro;have d0:=ae lx.out 0;have d1:=ae lx.out 1;clear hr HZ aC hle hwi hro;go_upto_region 4 with fail
   rw[<- db];clear db c0 c1;go_wp2_with fail;refine nL.out.mono ?_;rintro e w2 ⟨rfl,aL⟩;have bA:Hid _:=aL;have d2:=(aL.cell (p:=⟨wr.heap.size,1,be⟩) (BY.1 lx.out).1).trans d1;clear aL nL d0 d1;go_wp2_with fail;refine(Vv.out w2 bA.out).mono ?_;rintro e w3 ⟨bY,ym,ys,yg,yw,rfl,ho⟩;obtain⟨a2,l2,c2,rfl⟩:=bC ho.ms;obtain⟨a3,l3,c3,rfl⟩:=bC ho.sv;obtain⟨a4,l4,c4,rfl⟩:=bC ho.gw;obtain⟨a5,l5,c5,rfl⟩:=bC ho.wh;have cF:Hid _:=aZ.out.trans ((bA.out.trans (bY.mono bA.out.size)).mono aZ.out.size);have WH:Hid _:=cF.out.size;clear bY ho Vv;go_wp2_with fail;go_roundw
   case rel=>exact⟨k+1,by omega,by go_num,qV,cF.out.alloc WH.out _⟩
   case measure=>simp[intOf];omega
  .have hd:decide ((k:Int)<(m:Int))=false:=by simp;omega
   clear HZ;go_wp2_with fail;go_ret;exact⟨rfl,HB.out⟩
end Go.Proofs.YtbfghimjdlpicaaGreatDoor
namespace Go.Proofs.YtbfghimjdlpicaaGreatDoor
open Go.RowKit
structure fC(w:World)(t:Nt)(vn vl:Value):Prop where
 ns:xv w vn t.ns
 ls:Lt.Sl w vl t.ls
theorem fC.below{w w':World}{t:Nt}{vn vl:Value}(h:fC w t vn vl)(hb:Below w.heap.size w w'):fC w' t vn vl:=⟨h.ns.below hb,h.ls.below hb⟩
def Nt.Bz(t:Nt):Prop:=t.ls.length<=20->∀l∈t.ls,l.text.size<=16777216
theorem Nt.Xq{t:Nt}(h:6<t.ns.length\/20<t.ls.length):t.e=2:=if_pos h
theorem Nt.SG{t:Nt}(h:¬ (6<t.ns.length\/20<t.ls.length))(hn:lD t.ns≠0):t.e=lD t.ns:=by unfold Nt.e;rw[if_neg h,if_neg hn]
theorem Nt.sW{t:Nt}(h:¬ (6<t.ns.length\/20<t.ls.length))(hn:lD t.ns=0):t.e=pG (xu t.ns.length) t.ls:=by unfold Nt.e;rw[if_neg h,if_pos hn]
theorem Nt.acp{t:Nt}(h:t.e=0):pG (xu t.ns.length) t.ls=0:=by
 unfold Nt.e at h;split at h
 .cases h
 .split at h
  .exact h
  .exact absurd h (by assumption)
theorem BA(t:Nt)(g:Nat)(vn vl:Value)(w:World)(hV:Rv w.heap.size w)(h:fC w t vn vl)(hs:t.Bz)(Vm:pG (xu t.ns.length) t.ls=0)(hg:w.cell? ⟨g,0,be⟩=AI vn)(cI:w.cell? ⟨g,1,be⟩=AI vl) :
 Calls AS 39 #[If (AI ⟨g,0,be⟩)] w λe w'=>e=AT (U O t.e)/\Below w.heap.size w w':=by
 have dv:=Iw w _ hg;have HCN:Hid (t.ns.length<=6->Calls AS 71 #[If (AI ⟨g,0,be⟩)] w λe w'=>e=AT (U O (lD t.ns))/\Below w.heap.size w w'):=λh6=>vK t.ns g vn w h.ns hg h6;have Xb:Hid (t.ns.length<=6->t.ls.length<=20->∀W,Below w.heap.size w W->Calls AS 72 #[If (AI ⟨g,0,be⟩)] W λe w'=>e=AT (U O 0)/\Below W.heap.size W w'):=λh6 h20 W hW=>by
  obtain⟨a,cap,BB,_⟩:=h.ns;exact sV t.ls t.ns.length g a cap vl W (hV.after hW) (h.ls.below hW) ((hW.cell (p:=⟨g,0,be⟩) dv).trans (by rw[hg,BB])) ((hW.cell (p:=⟨g,1,be⟩) dv).trans cI) h6 h20 (hs h20) Vm
 have yS:Hid ((6<t.ns.length\/20<t.ls.length)->t.e=2):=Nt.Xq;have lP:Hid (¬ (6<t.ns.length\/20<t.ls.length)->lD t.ns≠0->t.e=lD t.ns):=Nt.SG;have Bo:Hid (¬ (6<t.ns.length\/20<t.ls.length)->lD t.ns=0->t.e=0):=λh h1=>(Nt.sW h h1).trans Vm;obtain⟨⟨pn,cn,BB,_⟩,⟨pl,cl,lC,_,_⟩⟩:=h;subst BB lC;generalize t.e=te at *;generalize lD t.ns=ce at *;generalize t.ns.length=n at *;generalize t.ls.length=m at *;clear hs hV Vm;by_cases h6:6<n
 .have d1:decide ((6:Int)<(n:Int))=true:=by simp;omega
  have HE:Hid _:=yS.out (.inl h6);clear yS lP Bo h6;go_enter Tryz.func39,Tryz.ntmps39;go_wp2_with fail;go_ret;exact⟨an HE.out.symm,Ib _ _⟩
 have d1:decide ((6:Int)<(n:Int))=false:=by simp;omega
 by_cases h20:20<m
 .have d2:decide ((20:Int)<(m:Int))=true:=by simp;omega
  have HE:Hid _:=yS.out (.inr h20);clear yS lP Bo h6 h20;go_enter Tryz.func39,Tryz.ntmps39;go_wp2_with fail;go_ret;exact⟨an HE.out.symm,Ib _ _⟩
 have d2:decide ((20:Int)<(m:Int))=false:=by simp;omega
 have Gv:Hid (Calls _ _ _ _ _):=HCN.out (by omega);have ye:Hid (∀W,Below w.heap.size w W->Calls _ _ _ _ _):=Xb.out (by omega) (by omega);have Xr:Hid _:=lP.out (by omega);have Xs:Hid _:=Bo.out (by omega);clear yS lP Bo h6 h20 HCN Xb;go_enter Tryz.func39,Tryz.ntmps39;go_wp2_with fail;refine Gv.out.mono ?_;rintro e w1 ⟨rfl,aC⟩;have aZ:Hid _:=aC;clear aC;by_cases h0:ce=0
 .have he:(ce !=0)=false:=by simpa using h0
  have HE:Hid _:=Xs.out h0;clear h0 Xr Xs;go_wp2_with fail;refine(ye.out w1 aZ.out).mono ?_;rintro e w2 ⟨rfl,aL⟩;have bA:Hid _:=aZ.out.trans (aL.mono aZ.out.size);clear aL;go_wp2_with fail;go_ret;exact⟨an HE.out.symm,bA.out⟩
 .have he:(ce !=0)=true:=by simpa using h0
  have HE:Hid _:=Xr.out h0;clear h0 Xr Xs;go_wp2_with fail;go_ret;exact⟨an HE.out.symm,aZ.out⟩
theorem nE(t:Nt)(vn vl:Value)(w:World)(hV:Rv w.heap.size w)(h:fC w t vn vl)(hs:t.Bz)(Vm:pG (xu t.ns.length) t.ls=0) :
 Calls AS 21 #[Ik #[vn,vl]] w λe w'=>e=AT (U O t.e)/\Below w.heap.size w w':=by
 have HC:Hid (∀W g,Below w.heap.size w W->W.cell? ⟨g,0,be⟩=AI vn->W.cell? ⟨g,1,be⟩=AI vl->Calls _ _ _ _ _):=λW g hW h0 h1=>BA t g vn vl W (hV.after hW) (h.below hW) hs Vm h0 h1;obtain⟨⟨pn,cn,BB,_⟩,⟨pl,cl,lC,_,_⟩⟩:=h;subst BB lC;generalize t.e=te at *;generalize t.ns.length=n at *;generalize t.ls.length=m at *;clear hs hV Vm;go_enter Tryz.func21,Tryz.ntmps21;go_wp2_with fail;refine(HC.out _ _ (((Ib _ _).alloc (Ie _) _).alloc (by simp) _) (by simp) (by simp)).mono ?_;rintro e w1 ⟨rfl,aC⟩;have aZ:Hid _:=((((Ib w.heap.size w).alloc (Ie _) _).alloc (by simp) _).trans (aC.mono (by simp;omega)));clear aC;go_wp2_with fail;go_ret;exact⟨rfl,aZ.out⟩
end Go.Proofs.YtbfghimjdlpicaaGreatDoor
