import Derived.Test.YtfidhgjmifendaaGreatDoorng18
set_option maxHeartbeats 6400000
set_option maxRecDepth 100000
open Option renaming none→be,some→AI,bind_eq_some_iff→Ix
open Nat renaming le_trans→Ir,le_refl→Ic,zero_le→IH
open Go.Value renaming slice→J,pointer→If,func→IP,int→U,string→Y,bool→Ia
open Go renaming maxLen→Io,info_parts→I6,callFunc→Oz,wpList_append_own→Ja,below_drewN→Jc,heap_alloc_new→Ii
open Option.some renaming injEq→It
open Prod.mk renaming injEq→IN
open List renaming mem_append→JE,mem_singleton→Jo,length_nil→IV,length_append→Ih,length_singleton→M2
open Decidable renaming byContradiction→J4
open Go.IntKind renaming i64→O
open Go.RowKit.Below renaming refl→Ib
open Go.Obj renaming cells→By
open Go.Addr renaming add_lit→I9
namespace Go.Proofs.YtfidhgjmifendaaGreatDoor
open Go.RowKit
theorem Rp.row{g base:Nat}{w w':World}{T:TypeId}{k n:Nat}{v:Value}{cs:List Value}(h:Rp g w w')(ho:w.ownsRow base T k v n cs)(hg:g<base):w'.ownsRow base T k v n cs:=by
 rcases ho.2 with⟨rfl,h0⟩|⟨b,c,cur,rfl,ey,hb,hr⟩
 .exact⟨ho.1,.inl ⟨rfl,h0⟩⟩
 .exact⟨ho.1,.inr ⟨b,c,cur,rfl,ey,h.kA (by omega) hb,hr⟩⟩
theorem Rp.grown{g:Nat}{q:List UInt8}{w w5 w6:World}(h:kb g q w5/\Rp g w w5)(hg:g<w.heap.size)(hb:Below w.heap.size w5 w6):kb g q w6/\Rp g w w6:=by
 obtain⟨h,hq⟩:=h;refine⟨⟨(hb.cell (p:=⟨g,0,be⟩) hg).trans h.c0,?_,Nat.lt_of_lt_of_le h.hg hb.size⟩,⟨hb.os.trans hq.os,hb.tape.trans hq.tape,hb.output.trans hq.output,Ir hq.size hb.size,λk hk RV=>(hb.block k hk).trans (hq.block k hk RV)⟩⟩;have:=h.hz;simp only[World.frozen?,hb.block g hg] at this ⊢;exact this
theorem bn{base:Nat}{w:World}{T:TypeId}{k n:Nat}{v:Value}{cs:List Value}(h:w.ownsRow base T k v n cs):∃a l c,v=J a l c:=by
 rcases h.2 with⟨hv,_⟩|⟨_,_,_,hv,_⟩
 .exact⟨_,_,_,hv⟩
 .exact⟨_,_,_,hv⟩
def dB:Nat->List UInt8->List Mem->Option (List Mem×List UInt8)
 |0,l,D=>AI (D,l)
 |n+1,l,D=>(eo l).bind λa=>dB n a.2 (D++[a.1])
def bT(l:List UInt8):Option (List Mem×List UInt8):=(mB l).bind λa=>if 0<=a.1 then dB a.1.toNat a.2 [] else be
theorem gQ:∀{n:Nat} {l r:List UInt8} {D E:List Mem},dB n l D=AI (E,r)->l.length<=140737488355328->(∀m∈D,m.name.size<=Io)->(∀m∈E,m.name.size<=Io)/\r.length<=l.length
 |0,l,r,D,E,h,hl,hD=>by
  simp only[dB,It,IN] at h;obtain⟨rfl,rfl⟩:=h;exact⟨hD,Ic _⟩
 |n+1,l,r,D,E,h,hl,hD=>by
  obtain⟨⟨m,r'⟩,he,h⟩:=Ix.1 h;have hi:=gP he;have hx:=gQ h (by simp only;omega) (λy hy=>by
   rcases JE.1 hy with hy|hy
   .exact hD y hy
   .rw[Jo.1 hy]
    unfold Io;simp only;omega)
  exact⟨hx.1,by have:=hx.2;simp only at this;omega⟩
theorem eA{l r:List UInt8}{E:List Mem}(h:bT l=AI (E,r))(hl:l.length<=140737488355328):(∀m∈E,m.name.size<=Io)/\r.length<l.length:=by
 unfold bT at h;obtain⟨⟨n,r1⟩,h1,h2⟩:=Ix.1 h;have hi:=cZ h1;split at h2
 .have hx:=gQ h2 (by simp only;omega) (λm hm=>by cases hm)
  exact⟨hx.1,by have:=hx.2;simp only at this;omega⟩
 .cases h2
abbrev GZ(c g N:Nat)(W0:World):Prop:=Gh 181 g N W0 #[If (AI ⟨g,0,be⟩),IP (.func 182) #[] #[If (AI ⟨c,0,be⟩)]] bT (λD w' v=>Own W0.heap.size w' v D)
theorem od{B g c N:Nat}{W0:World}(hV:Rv B W0)(gF:B<=g)(hN:N<=16777216)(hc:W0.cell? ⟨c,0,be⟩=AI (If (AI ⟨g,0,be⟩)))(wP:c≠g)(oZ:c<W0.heap.size):GZ c g N W0:=λ{β F0 w l f} h sR aT=>by
 obtain⟨⟨E,R⟩,hn,hF⟩:=fX sR aT;have HE:Hid _:=hF;have HI:Hid _:=(eA hn (by have:=h.n;omega)).2;unfold bT at hn;have HF:Hid _:=hn.symm;obtain⟨i0,fW,dd,gY,gG⟩:=I6 Tryz.oe;have ef:∀(args:Array Value) (W:World),(Oz 182 args).run Tryz.prog W=.ok (.enter 182 args) W:=enters_of Tryz.func182 (by kernel_rfl) rfl;have HN:Hid (Pv g N W0):=sO hV gF (by omega);have A7:Hid (sP c g N W0):=sQ hV gF (by omega) hc wP oZ;have HH:Hid (St g N W0 l w):=h;have di:=h.p.hg;clear hF sR aT hn h hV gF hc wP oZ;go_enter Tryz.func181,Tryz.ntmps181;go_wp2_with fail;refine(HN.out HH.out HF.out nofun).mono ?_;rintro e w1 ⟨n,r,v,rfl,⟨rfl,nK⟩,hp,hf,hl,hr⟩;have hf:AI (E,R)=if 0<=n then dB n.toNat r [] else be:=hf;have yM:=J4 λh0=>by rw[if_neg h0] at hf;cases hf
 rw[if_pos yM] at hf;obtain⟨M,rfl⟩:∃M:Nat,n=(M:Int):=⟨n.toNat,by omega⟩;have hd:decide ((0:Int)<=(M:Int))=true:=by simp
 have hM:M<=9223372036854775807:=by have:=nK.2;omega
 have rF:Hid _:=hf;have lZ:Hid _:=hp;have yy:Hid _:=hr;clear yM nK hf hp hl hr HF HN;go_wp2_with fail;refine(ji _ _).mono ?_;rintro e w4 ⟨rfl,Mw⟩;subst Mw;clear hd;have cX:=yy.out.size;go_wp2_with fail;go_loopw [6,13] (λv i wr=>∃(k:Nat) (D:List Mem) (m:List UInt8) (ao:Option Addr) (lo co:Nat),k<=M/\i=U O k/\v=J ao lo co/\Hid (AI (E,R)=dB (M-k) m D)/\Hid (D.length+m.length<=N)/\Hid (kb g m wr/\Rp g w wr)/\Hid (Own w.heap.size wr v D)/\w.heap.size<=wr.heap.size) (λ_ i _=>M-(intOf i).toNat)
 case atStart=>exact⟨0,[],r,be,0,0,IH _,rfl,rfl,rF,(show _<=_ by have:=lZ.out.n;simp only[IV];omega),⟨lZ.out.p,yy.out⟩,bX _ _,cX⟩
 case round=>
  obtain⟨k,D,m,ao,lo,co,hk,rfl,rfl,uK,oY,HP,HO,cC⟩:=hrel;by_cases aR:k<M
  .have hd:decide ((k:Int)<(M:Int))=true:=by simp;omega
   have sS:Hid (AI (E,R)=(eo m).bind λa=>dB (M-(k+1)) a.2 (D++[a.1])):=(show _=_ by have:=uK.out;rw[show M-k=(M-(k+1))+1 by omega] at this;exact this);clear uK;go_wp2_with fail;refine(A7.out ⟨HP.out.1,HH.out.r.trans HP.out.2,by have:=oY.out;omega⟩ sS.out nofun).mono ?_;rintro e w5 ⟨x,q,v,rfl,rfl,hp,hf,hl,hr⟩;have A8:Hid _:=hf;have A9:Hid ((D++[x]).length+q.length<=N):=(show _<=_ by have:=oY.out;rw[Ih,M2];omega);have uL:Hid (Own _ _ _ _):=hr.row HO.out di;have oH:Hid (kb g q w5/\Rp g w w5):=⟨hp.p,HP.out.2.trans hr⟩;have iY:=Ir cC hr.size;have RW:D.length<=16777216:=by have:=oY.out;omega
   clear hp hf hl hr sS oY HP HO cC;unfold Mem.val;go_wp2_with (at_builtin;refine Ja _ rfl _ _ 34 rfl w.heap.size 50 i0 _ 5 48 Tryz.underlying34 fW dd gY gG rfl (by omega) _ D.length (fl D) rfl ?hown ⟨w5.heap.size,0,be⟩ 1 1 x.cs rfl rfl ?hnews (db _) ?h63 ?hbytes ?hbase ?_)
   case hown=>(refine uL.out.below ?_;repeat(first|exact Ib _ _|refine Jc ?_ _|refine Below.alloc ?_ (by simp) _|refine Below.drew ?_))
   case hnews=>(intro j u hj;rw[I9];exact(ae (Ii w5 (By #[Y x.name,U O x.state,U O x.aM,U O x.addr,Ia x.server] 50)) (0+j)).trans (by simpa[Mem.cs] using hj))
   case h63=>(unfold Io;omega)
   case hbytes=>omega
   case hbase=>(simp;omega)
   intro v' w6 r1 r2 r3;have yc:Hid (Own _ _ _ _):=jI (by first|exact r1|(rw[Ih];exact r1));have vA:Hid _:=Rp.grown oH.out di (((Ib w.heap.size w5).alloc iY (By #[Y x.name,U O x.state,U O x.aM,U O x.addr,Ia x.server] 50)).trans ((Ib _ _).grown (w:=w5.alloc (By #[Y x.name,U O x.state,U O x.aM,U O x.addr,Ia x.server] 50)) ⟨r2.os,r2.tape,r2.output,r2.size,r2.block⟩ (by simp;omega) (λj hj=>(uL.out.lt j hj).1)));have Px:=vA.out.2.size;obtain⟨a6,l6,c6,G9⟩:∃a l c,v'=J a l c:=bn r1;subst G9;clear r1 r2 r3 oH uL iY RW;go_wp2_with fail;exact⟨⟨k+1,D++[x],q,a6,l6,c6,by omega,by go_num,rfl,A8,A9,vA,yc,Px⟩,by simp[intOf];omega⟩
  .have hd:decide ((k:Int)<(M:Int))=false:=by simp;omega
   have Ha:Hid (E=D/\R=m):=(show _/\_ by have:=uK.out;rw[show M-k=0 by omega] at this;cases this;exact⟨rfl,rfl⟩);clear uK oY;go_wp2_with fail;go_ret;exact⟨E,R,_,rfl,Ha.out.1▸HO.out.mono HH.out.r.size,HH.out.next (Ha.out.2▸HP.out.1) HP.out.2 HI.out,HE.out,HI.out,HP.out.2⟩
namespace Sv
def dB:Nat->List UInt8->List aW->Option (List aW×List UInt8)
 |0,l,D=>AI (D,l)
 |n+1,l,D=>(eo l).bind λa=>dB n a.2 (D++[a.1])
def bT(l:List UInt8):Option (List aW×List UInt8):=(mB l).bind λa=>if 0<=a.1 then dB a.1.toNat a.2 [] else be
theorem gQ:∀{n:Nat} {l r:List UInt8} {D E:List aW},dB n l D=AI (E,r)->l.length<=140737488355328->(∀m∈D,m.node.size<=Io/\m.bq.size<=Io/\m.name.size<=Io/\m.tag.size<=Io)->(∀m∈E,m.node.size<=Io/\m.bq.size<=Io/\m.name.size<=Io/\m.tag.size<=Io)/\r.length<=l.length
 |0,l,r,D,E,h,hl,hD=>by
  simp only[dB,It,IN] at h;obtain⟨rfl,rfl⟩:=h;exact⟨hD,Ic _⟩
 |n+1,l,r,D,E,h,hl,hD=>by
  obtain⟨⟨m,r'⟩,he,h⟩:=Ix.1 h;have hi:=gP he;have hx:=gQ h (by simp only;omega) (λy hy=>by
   rcases JE.1 hy with hy|hy
   .exact hD y hy
   .rw[Jo.1 hy]
    unfold Io;simp only;omega)
  exact⟨hx.1,by have:=hx.2;simp only at this;omega⟩
theorem eA{l r:List UInt8}{E:List aW}(h:bT l=AI (E,r))(hl:l.length<=140737488355328):(∀m∈E,m.node.size<=Io/\m.bq.size<=Io/\m.name.size<=Io/\m.tag.size<=Io)/\r.length<l.length:=by
 unfold bT at h;obtain⟨⟨n,r1⟩,h1,h2⟩:=Ix.1 h;have hi:=cZ h1;split at h2
 .have hx:=gQ h2 (by simp only;omega) (λm hm=>by cases hm)
  exact⟨hx.1,by have:=hx.2;simp only at this;omega⟩
 .cases h2
abbrev GZ(c g N:Nat)(W0:World):Prop:=Gh 184 g N W0 #[If (AI ⟨g,0,be⟩),IP (.func 185) #[] #[If (AI ⟨c,0,be⟩)]] bT (λD w' v=>Own W0.heap.size w' v D)
theorem od{B g c N:Nat}{W0:World}(hV:Rv B W0)(gF:B<=g)(hN:N<=16777216)(hc:W0.cell? ⟨c,0,be⟩=AI (If (AI ⟨g,0,be⟩)))(wP:c≠g)(oZ:c<W0.heap.size):GZ c g N W0:=λ{β F0 w l f} h sR aT=>by
 obtain⟨⟨E,R⟩,hn,hF⟩:=fX sR aT;have HE:Hid _:=hF;have HI:Hid _:=(eA hn (by have:=h.n;omega)).2;unfold bT at hn;have HF:Hid _:=hn.symm;obtain⟨i0,fW,dd,gY,gG⟩:=I6 Tryz.qm;have ef:=enters_of Tryz.func185 (by kernel_rfl) rfl;have HN:Hid (Pv g N W0):=sO hV gF (by omega);have A7:Hid (sP c g N W0):=sQ hV gF (by omega) hc wP oZ;have HH:Hid _:=h;have di:=h.p.hg;clear hF sR aT hn h hV gF hc wP oZ;go_enter Tryz.func184,Tryz.ntmps184;go_wp2_with fail;refine(HN.out HH.out HF.out nofun).mono ?_;rintro e w1 ⟨n,r,v,rfl,⟨rfl,nK⟩,hp,hf,hl,hr⟩;have hf:AI (E,R)=if 0<=n then dB n.toNat r [] else be:=hf;have yM:0<=n:=J4 λh0=>by rw[if_neg h0] at hf;cases hf
 rw[if_pos yM] at hf;obtain⟨M,rfl⟩:∃M:Nat,n=(M:Int):=⟨n.toNat,by omega⟩;have hd:decide ((0:Int)<=(M:Int))=true:=by simp
 have hM:M<=9223372036854775807:=by have:=nK.2;omega
 have rF:Hid _:=hf;have lZ:Hid _:=hp;have yy:Hid _:=hr;clear yM nK hf hp hl hr HF HN;go_wp2_with fail;refine(ji _ _).mono ?_;rintro e w4 ⟨rfl,Mw⟩;subst Mw;clear hd;have cX:=yy.out.size;go_wp2_with fail;go_loopw [6,13] (λv i wr=>∃(k:Nat) (D:List aW) (m:List UInt8) (ao:Option Addr) (lo co:Nat),k<=M/\i=U O k/\v=J ao lo co/\Hid (AI (E,R)=dB (M-k) m D)/\Hid (D.length+m.length<=N)/\Hid (kb g m wr/\Rp g w wr)/\Hid (Own w.heap.size wr v D)/\w.heap.size<=wr.heap.size) (λ_ i _=>M-(intOf i).toNat)
 case atStart=>exact⟨0,[],r,be,0,0,IH _,rfl,rfl,rF,(show _<=_ by have:=lZ.out.n;simp only[IV];omega),⟨lZ.out.p,yy.out⟩,bX _ _,cX⟩
 case round=>
  obtain⟨k,D,m,ao,lo,co,hk,rfl,rfl,uK,oY,HP,HO,cC⟩:=hrel;by_cases aR:k<M
  .have hd:decide ((k:Int)<(M:Int))=true:=by simp;omega
   have sS:Hid (AI (E,R)=(eo m).bind λa=>dB (M-(k+1)) a.2 (D++[a.1])):=(show _=_ by have:=uK.out;rw[show M-k=(M-(k+1))+1 by omega] at this;exact this);clear uK;go_wp2_with fail;refine(A7.out ⟨HP.out.1,HH.out.r.trans HP.out.2,by have:=oY.out;omega⟩ sS.out nofun).mono ?_;rintro e w5 ⟨x,q,v,rfl,rfl,hp,hf,hl,hr⟩;have A8:Hid _:=hf;have A9:Hid ((D++[x]).length+q.length<=N):=(show _<=_ by have:=oY.out;rw[Ih,M2];omega);have uL:Hid (Own _ _ _ _):=hr.row HO.out di;have oH:Hid (kb g q w5/\Rp g w w5):=⟨hp.p,HP.out.2.trans hr⟩;have iY:=Ir cC hr.size;have RW:D.length<=16777216:=by have:=oY.out;omega
   clear hp hf hl hr sS oY HP HO cC;unfold aW.val;go_wp2_with (at_builtin;refine Ja _ rfl _ _ 36 rfl w.heap.size 46 i0 _ 9 104 Tryz.underlying36 fW dd gY gG rfl (by omega) _ D.length (fl D) rfl ?hown ⟨w5.heap.size,0,be⟩ 1 1 x.cs rfl rfl ?hnews (db _) ?h63 ?hbytes ?hbase ?_)
   case hown=>(refine uL.out.below ?_;repeat(first|exact Ib _ _|refine Jc ?_ _|refine Below.alloc ?_ (by simp) _|refine Below.drew ?_))
   case hnews=>(intro j u hj;rw[I9];exact(ae (Ii w5 (By #[Y x.node,Y x.bq,Y x.name,Y x.tag,U O x.addr,U O x.port,Ia x.aj,U O x.version,Ia x.gone] 46)) (0+j)).trans (by simpa[aW.cs] using hj))
   case h63=>(unfold Io;omega)
   case hbytes=>omega
   case hbase=>(simp;omega)
   intro v' w6 r1 r2 r3;have yc:Hid (Own _ _ _ _):=jI (by first|exact r1|(rw[Ih];exact r1));have vA:Hid _:=Rp.grown oH.out di (((Ib w.heap.size w5).alloc iY (By #[Y x.node,Y x.bq,Y x.name,Y x.tag,U O x.addr,U O x.port,Ia x.aj,U O x.version,Ia x.gone] 46)).trans ((Ib _ _).grown (w:=w5.alloc (By #[Y x.node,Y x.bq,Y x.name,Y x.tag,U O x.addr,U O x.port,Ia x.aj,U O x.version,Ia x.gone] 46)) ⟨r2.os,r2.tape,r2.output,r2.size,r2.block⟩ (by simp;omega) (λj hj=>(uL.out.lt j hj).1)));have Px:=vA.out.2.size;obtain⟨a6,l6,c6,G9⟩:∃a l c,v'=J a l c:=bn r1;subst G9;clear r1 r2 r3 oH uL iY RW;go_wp2_with fail;exact⟨⟨k+1,D++[x],q,a6,l6,c6,by omega,by go_num,rfl,A8,A9,vA,yc,Px⟩,by simp[intOf];omega⟩
  .have hd:decide ((k:Int)<(M:Int))=false:=by simp;omega
   have Ha:Hid (E=D/\R=m):=(show _/\_ by have:=uK.out;rw[show M-k=0 by omega] at this;cases this;exact⟨rfl,rfl⟩);clear uK oY;go_wp2_with fail;go_ret;exact⟨E,R,_,rfl,Ha.out.1▸HO.out.mono HH.out.r.size,HH.out.next (Ha.out.2▸HP.out.1) HP.out.2 HI.out,HE.out,HI.out,HP.out.2⟩
end Sv
namespace Gw
def dB:Nat->List UInt8->List bC->Option (List bC×List UInt8)
 |0,l,D=>AI (D,l)
 |n+1,l,D=>(eo l).bind λa=>dB n a.2 (D++[a.1])
def bT(l:List UInt8):Option (List bC×List UInt8):=(mB l).bind λa=>if 0<=a.1 then dB a.1.toNat a.2 [] else be
theorem gQ:∀{n:Nat} {l r:List UInt8} {D E:List bC},dB n l D=AI (E,r)->l.length<=140737488355328->(∀m∈D,m.aC.size<=Io)->(∀m∈E,m.aC.size<=Io)/\r.length<=l.length
 |0,l,r,D,E,h,hl,hD=>by
  simp only[dB,It,IN] at h;obtain⟨rfl,rfl⟩:=h;exact⟨hD,Ic _⟩
 |n+1,l,r,D,E,h,hl,hD=>by
  obtain⟨⟨m,r'⟩,he,h⟩:=Ix.1 h;have hi:=gP he;have hx:=gQ h (by simp only;omega) (λy hy=>by
   rcases JE.1 hy with hy|hy
   .exact hD y hy
   .rw[Jo.1 hy]
    unfold Io;simp only;omega)
  exact⟨hx.1,by have:=hx.2;simp only at this;omega⟩
theorem eA{l r:List UInt8}{E:List bC}(h:bT l=AI (E,r))(hl:l.length<=140737488355328):(∀m∈E,m.aC.size<=Io)/\r.length<l.length:=by
 unfold bT at h;obtain⟨⟨n,r1⟩,h1,h2⟩:=Ix.1 h;have hi:=cZ h1;split at h2
 .have hx:=gQ h2 (by simp only;omega) (λm hm=>by cases hm)
  exact⟨hx.1,by have:=hx.2;simp only at this;omega⟩
 .cases h2
abbrev GZ(c g N:Nat)(W0:World):Prop:=Gh 186 g N W0 #[If (AI ⟨g,0,be⟩),IP (.func 187) #[] #[If (AI ⟨c,0,be⟩)]] bT (λD w' v=>Own W0.heap.size w' v D)
theorem od{B g c N:Nat}{W0:World}(hV:Rv B W0)(gF:B<=g)(hN:N<=16777216)(hc:W0.cell? ⟨c,0,be⟩=AI (If (AI ⟨g,0,be⟩)))(wP:c≠g)(oZ:c<W0.heap.size):GZ c g N W0:=λ{β F0 w l f} h sR aT=>by
 obtain⟨⟨E,R⟩,hn,hF⟩:=fX sR aT;have HE:Hid _:=hF;have HI:Hid _:=(eA hn (by have:=h.n;omega)).2;unfold bT at hn;have HF:Hid _:=hn.symm;obtain⟨i0,fW,dd,gY,gG⟩:=I6 Tryz.qo;have ef:∀(args:Array Value) (W:World),(Oz 187 args).run Tryz.prog W=.ok (.enter 187 args) W:=enters_of Tryz.func187 (by kernel_rfl) rfl;have HN:Hid (Pv g N W0):=sO hV gF (by omega);have A7:Hid (sP c g N W0):=sQ hV gF (by omega) hc wP oZ;have HH:Hid (St g N W0 l w):=h;have di:=h.p.hg;clear hF sR aT hn h hV gF hc wP oZ;go_enter Tryz.func186,Tryz.ntmps186;go_wp2_with fail;refine(HN.out HH.out HF.out nofun).mono ?_;rintro e w1 ⟨n,r,v,rfl,⟨rfl,nK⟩,hp,hf,hl,hr⟩;have hf:AI (E,R)=if 0<=n then dB n.toNat r [] else be:=hf;have yM:0<=n:=J4 λh0=>by rw[if_neg h0] at hf;cases hf
 rw[if_pos yM] at hf;obtain⟨M,rfl⟩:∃M:Nat,n=(M:Int):=⟨n.toNat,by omega⟩;have hd:decide ((0:Int)<=(M:Int))=true:=by simp
 have hM:M<=9223372036854775807:=by have:=nK.2;omega
 have rF:Hid _:=hf;have lZ:Hid _:=hp;have yy:Hid _:=hr;clear yM nK hf hp hl hr HF HN;go_wp2_with fail;refine(ji _ _).mono ?_;rintro e w4 ⟨rfl,Mw⟩;subst Mw;clear hd;have cX:=yy.out.size;go_wp2_with fail;go_loopw [6,13] (λv i wr=>∃(k:Nat) (D:List bC) (m:List UInt8) (ao:Option Addr) (lo co:Nat),k<=M/\i=U O k/\v=J ao lo co/\Hid (AI (E,R)=dB (M-k) m D)/\Hid (D.length+m.length<=N)/\Hid (kb g m wr/\Rp g w wr)/\Hid (Own w.heap.size wr v D)/\w.heap.size<=wr.heap.size) (λ_ i _=>M-(intOf i).toNat)
 case atStart=>exact⟨0,[],r,be,0,0,IH _,rfl,rfl,rF,(show _<=_ by have:=lZ.out.n;simp only[IV];omega),⟨lZ.out.p,yy.out⟩,bX _ _,cX⟩
 case round=>
  obtain⟨k,D,m,ao,lo,co,hk,rfl,rfl,uK,oY,HP,HO,cC⟩:=hrel;by_cases aR:k<M
  .have hd:decide ((k:Int)<(M:Int))=true:=by simp;omega
   have sS:Hid (AI (E,R)=(eo m).bind λa=>dB (M-(k+1)) a.2 (D++[a.1])):=(show _=_ by have:=uK.out;rw[show M-k=(M-(k+1))+1 by omega] at this;exact this);clear uK;go_wp2_with fail;refine(A7.out ⟨HP.out.1,HH.out.r.trans HP.out.2,by have:=oY.out;omega⟩ sS.out nofun).mono ?_;rintro e w5 ⟨x,q,v,rfl,rfl,hp,hf,hl,hr⟩;have A8:Hid _:=hf;have A9:Hid ((D++[x]).length+q.length<=N):=(show _<=_ by have:=oY.out;rw[Ih,M2];omega);have uL:Hid (Own _ _ _ _):=hr.row HO.out di;have oH:Hid (kb g q w5/\Rp g w w5):=⟨hp.p,HP.out.2.trans hr⟩;have iY:=Ir cC hr.size;have RW:D.length<=16777216:=by have:=oY.out;omega
   clear hp hf hl hr sS oY HP HO cC;unfold bC.val;go_wp2_with (at_builtin;refine Ja _ rfl _ _ 37 rfl w.heap.size 77 i0 _ 3 32 Tryz.underlying37 fW dd gY gG rfl (by omega) _ D.length (fl D) rfl ?hown ⟨w5.heap.size,0,be⟩ 1 1 x.cs rfl rfl ?hnews (db _) ?h63 ?hbytes ?hbase ?_)
   case hown=>(refine uL.out.below ?_;repeat(first|exact Ib _ _|refine Jc ?_ _|refine Below.alloc ?_ (by simp) _|refine Below.drew ?_))
   case hnews=>(intro j u hj;rw[I9];exact(ae (Ii w5 (By #[Y x.aC,U O x.addr,U O x.version] 77)) (0+j)).trans (by simpa[bC.cs] using hj))
   case h63=>(unfold Io;omega)
   case hbytes=>omega
   case hbase=>(simp;omega)
   intro v' w6 r1 r2 r3;have yc:Hid (Own _ _ _ _):=jI (by first|exact r1|(rw[Ih];exact r1));have vA:Hid _:=Rp.grown oH.out di (((Ib w.heap.size w5).alloc iY (By #[Y x.aC,U O x.addr,U O x.version] 77)).trans ((Ib _ _).grown (w:=w5.alloc (By #[Y x.aC,U O x.addr,U O x.version] 77)) ⟨r2.os,r2.tape,r2.output,r2.size,r2.block⟩ (by simp;omega) (λj hj=>(uL.out.lt j hj).1)));have Px:=vA.out.2.size;obtain⟨a6,l6,c6,G9⟩:∃a l c,v'=J a l c:=bn r1;subst G9;clear r1 r2 r3 oH uL iY RW;go_wp2_with fail;exact⟨⟨k+1,D++[x],q,a6,l6,c6,by omega,by go_num,rfl,A8,A9,vA,yc,Px⟩,by simp[intOf];omega⟩
  .have hd:decide ((k:Int)<(M:Int))=false:=by simp;omega
   have Ha:Hid (E=D/\R=m):=(show _/\_ by have:=uK.out;rw[show M-k=0 by omega] at this;cases this;exact⟨rfl,rfl⟩);clear uK oY;go_wp2_with fail;go_ret;exact⟨E,R,_,rfl,Ha.out.1▸HO.out.mono HH.out.r.size,HH.out.next (Ha.out.2▸HP.out.1) HP.out.2 HI.out,HE.out,HI.out,HP.out.2⟩
end Gw
namespace Wh
def dB:Nat->List UInt8->List bJ->Option (List bJ×List UInt8)
 |0,l,D=>AI (D,l)
 |n+1,l,D=>(eo l).bind λa=>dB n a.2 (D++[a.1])
def bT(l:List UInt8):Option (List bJ×List UInt8):=(mB l).bind λa=>if 0<=a.1 then dB a.1.toNat a.2 [] else be
theorem gQ:∀{n:Nat} {l r:List UInt8} {D E:List bJ},dB n l D=AI (E,r)->l.length<=140737488355328->(∀m∈D,m.node.size<=Io)->(∀m∈E,m.node.size<=Io)/\r.length<=l.length
 |0,l,r,D,E,h,hl,hD=>by
  simp only[dB,It,IN] at h;obtain⟨rfl,rfl⟩:=h;exact⟨hD,Ic _⟩
 |n+1,l,r,D,E,h,hl,hD=>by
  obtain⟨⟨m,r'⟩,he,h⟩:=Ix.1 h;have hi:=gP he;have hx:=gQ h (by simp only;omega) (λy hy=>by
   rcases JE.1 hy with hy|hy
   .exact hD y hy
   .rw[Jo.1 hy]
    unfold Io;simp only;omega)
  exact⟨hx.1,by have:=hx.2;simp only at this;omega⟩
theorem eA{l r:List UInt8}{E:List bJ}(h:bT l=AI (E,r))(hl:l.length<=140737488355328):(∀m∈E,m.node.size<=Io)/\r.length<l.length:=by
 unfold bT at h;obtain⟨⟨n,r1⟩,h1,h2⟩:=Ix.1 h;have hi:=cZ h1;split at h2
 .have hx:=gQ h2 (by simp only;omega) (λm hm=>by cases hm)
  exact⟨hx.1,by have:=hx.2;simp only at this;omega⟩
 .cases h2
abbrev GZ(c g N:Nat)(W0:World):Prop:=Gh 188 g N W0 #[If (AI ⟨g,0,be⟩),IP (.func 189) #[] #[If (AI ⟨c,0,be⟩)]] bT (λD w' v=>Own W0.heap.size w' v D)
theorem od{B g c N:Nat}{W0:World}(hV:Rv B W0)(gF:B<=g)(hN:N<=16777216)(hc:W0.cell? ⟨c,0,be⟩=AI (If (AI ⟨g,0,be⟩)))(wP:c≠g)(oZ:c<W0.heap.size):GZ c g N W0:=λ{β F0 w l f} h sR aT=>by
 obtain⟨⟨E,R⟩,hn,hF⟩:=fX sR aT;have HE:Hid _:=hF;have HI:Hid _:=(eA hn (by have:=h.n;omega)).2;unfold bT at hn;have HF:Hid _:=hn.symm;obtain⟨i0,fW,dd,gY,gG⟩:=I6 Tryz.np;have ef:∀(args:Array Value) (W:World),(Oz 189 args).run Tryz.prog W=.ok (.enter 189 args) W:=enters_of Tryz.func189 (by kernel_rfl) rfl;have HN:Hid (Pv g N W0):=sO hV gF (by omega);have A7:Hid (sP c g N W0):=sQ hV gF (by omega) hc wP oZ;have HH:Hid (St g N W0 l w):=h;have di:=h.p.hg;clear hF sR aT hn h hV gF hc wP oZ;go_enter Tryz.func188,Tryz.ntmps188;go_wp2_with fail;refine(HN.out HH.out HF.out nofun).mono ?_;rintro e w1 ⟨n,r,v,rfl,⟨rfl,nK⟩,hp,hf,hl,hr⟩;have hf:AI (E,R)=if 0<=n then dB n.toNat r [] else be:=hf;have yM:=J4 λh0=>by rw[if_neg h0] at hf;cases hf
 rw[if_pos yM] at hf;obtain⟨M,rfl⟩:∃M:Nat,n=(M:Int):=⟨n.toNat,by omega⟩;have hd:decide ((0:Int)<=(M:Int))=true:=by simp
 have hM:M<=9223372036854775807:=by have:=nK.2;omega
 have rF:Hid _:=hf;have lZ:Hid _:=hp;have yy:Hid _:=hr;clear yM nK hf hp hl hr HF HN;go_wp2_with fail;refine(ji _ _).mono ?_;rintro e w4 ⟨rfl,Mw⟩;subst Mw;clear hd;have cX:=yy.out.size;go_wp2_with fail;go_loopw [6,13] (λv i wr=>∃(k:Nat) (D:List bJ) (m:List UInt8) (ao:Option Addr) (lo co:Nat),k<=M/\i=U O k/\v=J ao lo co/\Hid (AI (E,R)=dB (M-k) m D)/\Hid (D.length+m.length<=N)/\Hid (kb g m wr/\Rp g w wr)/\Hid (Own w.heap.size wr v D)/\w.heap.size<=wr.heap.size) (λ_ i _=>M-(intOf i).toNat)
 case atStart=>exact⟨0,[],r,be,0,0,IH _,rfl,rfl,rF,(show _<=_ by have:=lZ.out.n;simp only[IV];omega),⟨lZ.out.p,yy.out⟩,bX _ _,cX⟩
 case round=>
  obtain⟨k,D,m,ao,lo,co,hk,rfl,rfl,uK,oY,HP,HO,cC⟩:=hrel;by_cases aR:k<M
  .have hd:decide ((k:Int)<(M:Int))=true:=by simp;omega
   have sS:Hid (AI (E,R)=(eo m).bind λa=>dB (M-(k+1)) a.2 (D++[a.1])):=(show _=_ by have:=uK.out;rw[show M-k=(M-(k+1))+1 by omega] at this;exact this);clear uK;go_wp2_with fail;refine(A7.out ⟨HP.out.1,HH.out.r.trans HP.out.2,by have:=oY.out;omega⟩ sS.out nofun).mono ?_;rintro e w5 ⟨x,q,v,rfl,rfl,hp,hf,hl,hr⟩;have A8:Hid _:=hf;have A9:Hid ((D++[x]).length+q.length<=N):=(show _<=_ by have:=oY.out;rw[Ih,M2];omega);have uL:Hid (Own _ _ _ _):=hr.row HO.out di;have oH:Hid (kb g q w5/\Rp g w w5):=⟨hp.p,HP.out.2.trans hr⟩;have iY:=Ir cC hr.size;have RW:D.length<=16777216:=by have:=oY.out;omega
   clear hp hf hl hr sS oY HP HO cC;unfold bJ.val;go_wp2_with (at_builtin;refine Ja _ rfl _ _ 40 rfl w.heap.size 116 i0 _ 6 56 Tryz.underlying40 fW dd gY gG rfl (by omega) _ D.length (fl D) rfl ?hown ⟨w5.heap.size,0,be⟩ 1 1 x.cs rfl rfl ?hnews (db _) ?h63 ?hbytes ?hbase ?_)
   case hown=>(refine uL.out.below ?_;repeat(first|exact Ib _ _|refine Jc ?_ _|refine Below.alloc ?_ (by simp) _|refine Below.drew ?_))
   case hnews=>(intro j u hj;rw[I9];exact(ae (Ii w5 (By #[Y x.node,U O x.x,U O x.y,U O x.z,U O x.h,U O x.s] 116)) (0+j)).trans (by simpa[bJ.cs] using hj))
   case h63=>(unfold Io;omega)
   case hbytes=>omega
   case hbase=>(simp;omega)
   intro v' w6 r1 r2 r3;have yc:Hid (Own _ _ _ _):=jI (by first|exact r1|(rw[Ih];exact r1));have vA:Hid _:=Rp.grown oH.out di (((Ib w.heap.size w5).alloc iY (By #[Y x.node,U O x.x,U O x.y,U O x.z,U O x.h,U O x.s] 116)).trans ((Ib _ _).grown (w:=w5.alloc (By #[Y x.node,U O x.x,U O x.y,U O x.z,U O x.h,U O x.s] 116)) ⟨r2.os,r2.tape,r2.output,r2.size,r2.block⟩ (by simp;omega) (λj hj=>(uL.out.lt j hj).1)));have Px:=vA.out.2.size;obtain⟨a6,l6,c6,G9⟩:∃a l c,v'=J a l c:=bn r1;subst G9;clear r1 r2 r3 oH uL iY RW;go_wp2_with fail;exact⟨⟨k+1,D++[x],q,a6,l6,c6,by omega,by go_num,rfl,A8,A9,vA,yc,Px⟩,by simp[intOf];omega⟩
  .have hd:decide ((k:Int)<(M:Int))=false:=by simp;omega
   have Ha:Hid (E=D/\R=m):=(show _/\_ by have:=uK.out;rw[show M-k=0 by omega] at this;cases this;exact⟨rfl,rfl⟩);clear uK oY;go_wp2_with fail;go_ret;exact⟨E,R,_,rfl,Ha.out.1▸HO.out.mono HH.out.r.size,HH.out.next (Ha.out.2▸HP.out.1) HP.out.2 HI.out,HE.out,HI.out,HP.out.2⟩
end Wh
end Go.Proofs.YtfidhgjmifendaaGreatDoor
