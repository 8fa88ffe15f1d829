import Derived.Test.YtfidhgjmifendaaGreatDoornt15
set_option maxHeartbeats 6400000
set_option maxRecDepth 100000
open Option renaming none→be,some→AI,bind_eq_some_iff→Iw
open Nat renaming le_trans→Iq,le_refl→Ic,zero_le→II
open Go.Value renaming slice→J,pointer→Ie,func→IQ,int→U,string→Y,bool→Ia
open Go renaming maxLen→Il,info_parts→I6,callFunc→OC,wpList_append_own→Jd,below_drewN→I8,heap_alloc_new→Ih
open Option.some renaming injEq→It
open Prod.mk renaming injEq→IP
open List renaming mem_append→Jx,mem_singleton→Jb,length_nil→IW,length_append→Ig,length_singleton→J9
open Decidable renaming byContradiction→J3
open Go.IntKind renaming i64→O
open Go.RowKit.Below renaming refl→Ib
open Go.Obj renaming cells→AT
open Go.Addr renaming add_lit→I9
namespace Go.Proofs.YtfidhgjmifendaaGreatDoor
open Go.RowKit
theorem Rp.row{g base:Nat}{w w':World}{T:TypeId}{k n:Nat}{v:Value}{cs:List Value}(h:Rp g w w')(ho:w.ownsRow base T k v n cs)(hg:g<base):w'.ownsRow base T k v n cs:=by
 rcases ho.2 with⟨rfl,h0⟩|⟨b,c,cur,rfl,ev,hb,hr⟩
 .exact⟨ho.1,.inl ⟨rfl,h0⟩⟩
 .exact⟨ho.1,.inr ⟨b,c,cur,rfl,ev,h.kC (by omega) hb,hr⟩⟩
theorem Rp.grown{g:Nat}{q:List UInt8}{w w5 w6:World}(h:kd g q w5/\Rp g w w5)(hg:g<w.heap.size)(hb:Below w.heap.size w5 w6):kd g q w6/\Rp g w w6:=by
 obtain⟨h,hq⟩:=h;refine⟨⟨(hb.cell (p:=⟨g,0,be⟩) hg).trans h.c0,?_,Nat.lt_of_lt_of_le h.hg hb.size⟩,⟨hb.os.trans hq.os,hb.tape.trans hq.tape,hb.output.trans hq.output,Iq hq.size hb.size,λk hk Ry=>(hb.block k hk).trans (hq.block k hk Ry)⟩⟩;have:=h.hz;simp only[World.frozen?,hb.block g hg] at this ⊢;exact this
theorem bl{base:Nat}{w:World}{T:TypeId}{k n:Nat}{v:Value}{cs:List Value}(h:w.ownsRow base T k v n cs):∃a l c,v=J a l c:=by
 rcases h.2 with⟨hv,_⟩|⟨_,_,_,hv,_⟩
 .exact⟨_,_,_,hv⟩
 .exact⟨_,_,_,hv⟩
def dC:Nat->List UInt8->List Mem->Option (List Mem×List UInt8)
 |0,l,D=>AI (D,l)
 |n+1,l,D=>(en l).bind λa=>dC n a.2 (D++[a.1])
def bU(l:List UInt8):Option (List Mem×List UInt8):=(mH l).bind λa=>if 0<=a.1 then dC a.1.toNat a.2 [] else be
theorem gP:∀{n:Nat} {l r:List UInt8} {D E:List Mem},dC n l D=AI (E,r)->l.length<=140737488355328->(∀m∈D,m.name.size<=Il)->(∀m∈E,m.name.size<=Il)/\r.length<=l.length
 |0,l,r,D,E,h,hl,hD=>by
  simp only[dC,It,IP] at h;obtain⟨rfl,rfl⟩:=h;exact⟨hD,Ic _⟩
 |n+1,l,r,D,E,h,hl,hD=>by
  obtain⟨⟨m,r'⟩,he,h⟩:=Iw.1 h;have hi:=gO he;have hx:=gP h (by simp only;omega) (λy hy=>by
   rcases Jx.1 hy with hy|hy
   .exact hD y hy
   .rw[Jb.1 hy]
    unfold Il;simp only;omega)
  exact⟨hx.1,by have:=hx.2;simp only at this;omega⟩
theorem eA{l r:List UInt8}{E:List Mem}(h:bU l=AI (E,r))(hl:l.length<=140737488355328):(∀m∈E,m.name.size<=Il)/\r.length<l.length:=by
 unfold bU at h;obtain⟨⟨n,r1⟩,h1,h2⟩:=Iw.1 h;have hi:=db h1;split at h2
 .have hx:=gP h2 (by simp only;omega) (λm hm=>by cases hm)
  exact⟨hx.1,by have:=hx.2;simp only at this;omega⟩
 .cases h2
abbrev GP(c g N:Nat)(W0:World):Prop:=F8 181 g N W0 #[Ie (AI ⟨g,0,be⟩),IQ (.func 182) #[] #[Ie (AI ⟨c,0,be⟩)]] bU (λD w' v=>Own W0.heap.size w' v D)
theorem og{B g c N:Nat}{W0:World}(hV:Rv B W0)(gF:B<=g)(hN:N<=16777216)(hc:W0.cell? ⟨c,0,be⟩=AI (Ie (AI ⟨g,0,be⟩)))(wT:c≠g)(o9:c<W0.heap.size):GP c g N W0:=λ{β F0 w l f} h sR aM=>by
 obtain⟨⟨E,R⟩,hn,hF⟩:=fR sR aM;have HE:Hid _:=hF;have HI:Hid _:=(eA hn (by have:=h.n;omega)).2;unfold bU at hn;have HF:Hid _:=hn.symm;obtain⟨i0,fL,dh,gW,gG⟩:=I6 Tryz.oh;have ef:∀(args:Array Value) (W:World),(OC 182 args).run Tryz.prog W=.ok (.enter 182 args) W:=enters_of Tryz.func182 (by kernel_rfl) rfl;have HN:Hid (Pm g N W0):=sO hV gF (by omega);have AZ:Hid (sP c g N W0):=sQ hV gF (by omega) hc wT o9;have HH:Hid (St g N W0 l w):=h;have dn:=h.p.hg;clear hF sR aM hn h hV gF hc wT o9;go_enter Tryz.func181,Tryz.ntmps181;go_wp2_with fail;refine(HN.out HH.out HF.out nofun).mono ?_;rintro e w1 ⟨n,r,v,rfl,⟨rfl,nO⟩,hp,hf,hl,hr⟩;have hf:AI (E,R)=if 0<=n then dC n.toNat r [] else be:=hf;have yV:=J3 λh0=>by rw[if_neg h0] at hf;cases hf
 rw[if_pos yV] at hf;obtain⟨M,rfl⟩:∃M:Nat,n=(M:Int):=⟨n.toNat,by omega⟩;have hd:decide ((0:Int)<=(M:Int))=true:=by simp
 have hM:M<=9223372036854775807:=by have:=nO.2;omega
 have rM:Hid _:=hf;have mf:Hid _:=hp;have yK:Hid _:=hr;clear yV nO hf hp hl hr HF HN;go_wp2_with fail;refine(jo _ _).mono ?_;rintro e w4 ⟨rfl,GQ⟩;subst GQ;clear hd;have cZ:=yK.out.size;go_wp2_with fail;go_loopw [6,13] (λv i wr=>∃(k:Nat) (D:List Mem) (m:List UInt8) (ao:Option Addr) (lo co:Nat),k<=M/\i=U O k/\v=J ao lo co/\Hid (AI (E,R)=dC (M-k) m D)/\Hid (D.length+m.length<=N)/\Hid (kd g m wr/\Rp g w wr)/\Hid (Own w.heap.size wr v D)/\w.heap.size<=wr.heap.size) (λ_ i _=>M-(intOf i).toNat)
 case atStart=>exact⟨0,[],r,be,0,0,II _,rfl,rfl,rM,(show _<=_ by have:=mf.out.n;simp only[IW];omega),⟨mf.out.p,yK.out⟩,bY _ _,cZ⟩
 case round=>
  obtain⟨k,D,m,ao,lo,co,hk,rfl,rfl,qu,o8,HP,HO,cF⟩:=hrel;by_cases aW:k<M
  .have hd:decide ((k:Int)<(M:Int))=true:=by simp;omega
   have sS:Hid (AI (E,R)=(en m).bind λa=>dC (M-(k+1)) a.2 (D++[a.1])):=(show _=_ by have:=qu.out;rw[show M-k=(M-(k+1))+1 by omega] at this;exact this);clear qu;go_wp2_with fail;refine(AZ.out ⟨HP.out.1,HH.out.r.trans HP.out.2,by have:=o8.out;omega⟩ sS.out nofun).mono ?_;rintro e w5 ⟨x,q,v,rfl,rfl,hp,hf,hl,hr⟩;have A0:Hid _:=hf;have A3:Hid ((D++[x]).length+q.length<=N):=(show _<=_ by have:=o8.out;rw[Ig,J9];omega);have uL:Hid (Own _ _ _ _):=hr.row HO.out dn;have oO:Hid (kd g q w5/\Rp g w w5):=⟨hp.p,HP.out.2.trans hr⟩;have jc:=Iq cF hr.size;have Rz:D.length<=16777216:=by have:=o8.out;omega
   clear hp hf hl hr sS o8 HP HO cF;unfold Mem.val;go_wp2_with (at_builtin;refine Jd _ rfl _ _ 34 rfl w.heap.size 50 i0 _ 5 48 Tryz.underlying34 fL dh gW gG rfl (by omega) _ D.length (fl D) rfl ?hown ⟨w5.heap.size,0,be⟩ 1 1 x.cs rfl rfl ?hnews (df _) ?h63 ?hbytes ?hbase ?_)
   case hown=>(refine uL.out.below ?_;repeat(first|exact Ib _ _|refine I8 ?_ _|refine Below.alloc ?_ (by simp) _|refine Below.drew ?_))
   case hnews=>(intro j u hj;rw[I9];exact(ae (Ih w5 (AT #[Y x.name,U O x.state,U O x.aI,U O x.addr,Ia x.server] 50)) (0+j)).trans (by simpa[Mem.cs] using hj))
   case h63=>(unfold Il;omega)
   case hbytes=>omega
   case hbase=>(simp;omega)
   intro v' w6 r1 r2 r3;have yo:Hid (Own _ _ _ _):=jK (by first|exact r1|(rw[Ig];exact r1));have vD:Hid _:=Rp.grown oO.out dn (((Ib w.heap.size w5).alloc jc (AT #[Y x.name,U O x.state,U O x.aI,U O x.addr,Ia x.server] 50)).trans ((Ib _ _).grown (w:=w5.alloc (AT #[Y x.name,U O x.state,U O x.aI,U O x.addr,Ia x.server] 50)) ⟨r2.os,r2.tape,r2.output,r2.size,r2.block⟩ (by simp;omega) (λj hj=>(uL.out.lt j hj).1)));have Po:=vD.out.2.size;obtain⟨a6,l6,c6,GR⟩:∃a l c,v'=J a l c:=bl r1;subst GR;clear r1 r2 r3 oO uL jc Rz;go_wp2_with fail;exact⟨⟨k+1,D++[x],q,a6,l6,c6,by omega,by go_num,rfl,A0,A3,vD,yo,Po⟩,by simp[intOf];omega⟩
  .have hd:decide ((k:Int)<(M:Int))=false:=by simp;omega
   have GS:Hid (E=D/\R=m):=(show _/\_ by have:=qu.out;rw[show M-k=0 by omega] at this;cases this;exact⟨rfl,rfl⟩);clear qu o8;go_wp2_with fail;go_ret;exact⟨E,R,_,rfl,GS.out.1▸HO.out.mono HH.out.r.size,HH.out.next (GS.out.2▸HP.out.1) HP.out.2 HI.out,HE.out,HI.out,HP.out.2⟩
namespace Sv
def dC:Nat->List UInt8->List aT->Option (List aT×List UInt8)
 |0,l,D=>AI (D,l)
 |n+1,l,D=>(en l).bind λa=>dC n a.2 (D++[a.1])
def bU(l:List UInt8):Option (List aT×List UInt8):=(mH l).bind λa=>if 0<=a.1 then dC a.1.toNat a.2 [] else be
theorem gP:∀{n:Nat} {l r:List UInt8} {D E:List aT},dC n l D=AI (E,r)->l.length<=140737488355328->(∀m∈D,m.node.size<=Il/\m.bu.size<=Il/\m.name.size<=Il/\m.tag.size<=Il)->(∀m∈E,m.node.size<=Il/\m.bu.size<=Il/\m.name.size<=Il/\m.tag.size<=Il)/\r.length<=l.length
 |0,l,r,D,E,h,hl,hD=>by
  simp only[dC,It,IP] at h;obtain⟨rfl,rfl⟩:=h;exact⟨hD,Ic _⟩
 |n+1,l,r,D,E,h,hl,hD=>by
  obtain⟨⟨m,r'⟩,he,h⟩:=Iw.1 h;have hi:=gO he;have hx:=gP h (by simp only;omega) (λy hy=>by
   rcases Jx.1 hy with hy|hy
   .exact hD y hy
   .rw[Jb.1 hy]
    unfold Il;simp only;omega)
  exact⟨hx.1,by have:=hx.2;simp only at this;omega⟩
theorem eA{l r:List UInt8}{E:List aT}(h:bU l=AI (E,r))(hl:l.length<=140737488355328):(∀m∈E,m.node.size<=Il/\m.bu.size<=Il/\m.name.size<=Il/\m.tag.size<=Il)/\r.length<l.length:=by
 unfold bU at h;obtain⟨⟨n,r1⟩,h1,h2⟩:=Iw.1 h;have hi:=db h1;split at h2
 .have hx:=gP h2 (by simp only;omega) (λm hm=>by cases hm)
  exact⟨hx.1,by have:=hx.2;simp only at this;omega⟩
 .cases h2
abbrev GP(c g N:Nat)(W0:World):Prop:=F8 184 g N W0 #[Ie (AI ⟨g,0,be⟩),IQ (.func 185) #[] #[Ie (AI ⟨c,0,be⟩)]] bU (λD w' v=>Own W0.heap.size w' v D)
theorem og{B g c N:Nat}{W0:World}(hV:Rv B W0)(gF:B<=g)(hN:N<=16777216)(hc:W0.cell? ⟨c,0,be⟩=AI (Ie (AI ⟨g,0,be⟩)))(wT:c≠g)(o9:c<W0.heap.size):GP c g N W0:=λ{β F0 w l f} h sR aM=>by
 obtain⟨⟨E,R⟩,hn,hF⟩:=fR sR aM;have HE:Hid _:=hF;have HI:Hid _:=(eA hn (by have:=h.n;omega)).2;unfold bU at hn;have HF:Hid _:=hn.symm;obtain⟨i0,fL,dh,gW,gG⟩:=I6 Tryz.qv;have ef:=enters_of Tryz.func185 (by kernel_rfl) rfl;have HN:Hid (Pm g N W0):=sO hV gF (by omega);have AZ:Hid (sP c g N W0):=sQ hV gF (by omega) hc wT o9;have HH:Hid _:=h;have dn:=h.p.hg;clear hF sR aM hn h hV gF hc wT o9;go_enter Tryz.func184,Tryz.ntmps184;go_wp2_with fail;refine(HN.out HH.out HF.out nofun).mono ?_;rintro e w1 ⟨n,r,v,rfl,⟨rfl,nO⟩,hp,hf,hl,hr⟩;have hf:AI (E,R)=if 0<=n then dC n.toNat r [] else be:=hf;have yV:0<=n:=J3 λh0=>by rw[if_neg h0] at hf;cases hf
 rw[if_pos yV] at hf;obtain⟨M,rfl⟩:∃M:Nat,n=(M:Int):=⟨n.toNat,by omega⟩;have hd:decide ((0:Int)<=(M:Int))=true:=by simp
 have hM:M<=9223372036854775807:=by have:=nO.2;omega
 have rM:Hid _:=hf;have mf:Hid _:=hp;have yK:Hid _:=hr;clear yV nO hf hp hl hr HF HN;go_wp2_with fail;refine(jo _ _).mono ?_;rintro e w4 ⟨rfl,GQ⟩;subst GQ;clear hd;have cZ:=yK.out.size;go_wp2_with fail;go_loopw [6,13] (λv i wr=>∃(k:Nat) (D:List aT) (m:List UInt8) (ao:Option Addr) (lo co:Nat),k<=M/\i=U O k/\v=J ao lo co/\Hid (AI (E,R)=dC (M-k) m D)/\Hid (D.length+m.length<=N)/\Hid (kd g m wr/\Rp g w wr)/\Hid (Own w.heap.size wr v D)/\w.heap.size<=wr.heap.size) (λ_ i _=>M-(intOf i).toNat)
 case atStart=>exact⟨0,[],r,be,0,0,II _,rfl,rfl,rM,(show _<=_ by have:=mf.out.n;simp only[IW];omega),⟨mf.out.p,yK.out⟩,bY _ _,cZ⟩
 case round=>
  obtain⟨k,D,m,ao,lo,co,hk,rfl,rfl,qu,o8,HP,HO,cF⟩:=hrel;by_cases aW:k<M
  .have hd:decide ((k:Int)<(M:Int))=true:=by simp;omega
   have sS:Hid (AI (E,R)=(en m).bind λa=>dC (M-(k+1)) a.2 (D++[a.1])):=(show _=_ by have:=qu.out;rw[show M-k=(M-(k+1))+1 by omega] at this;exact this);clear qu;go_wp2_with fail;refine(AZ.out ⟨HP.out.1,HH.out.r.trans HP.out.2,by have:=o8.out;omega⟩ sS.out nofun).mono ?_;rintro e w5 ⟨x,q,v,rfl,rfl,hp,hf,hl,hr⟩;have A0:Hid _:=hf;have A3:Hid ((D++[x]).length+q.length<=N):=(show _<=_ by have:=o8.out;rw[Ig,J9];omega);have uL:Hid (Own _ _ _ _):=hr.row HO.out dn;have oO:Hid (kd g q w5/\Rp g w w5):=⟨hp.p,HP.out.2.trans hr⟩;have jc:=Iq cF hr.size;have Rz:D.length<=16777216:=by have:=o8.out;omega
   clear hp hf hl hr sS o8 HP HO cF;unfold aT.val;go_wp2_with (at_builtin;refine Jd _ rfl _ _ 36 rfl w.heap.size 46 i0 _ 9 104 Tryz.underlying36 fL dh gW gG rfl (by omega) _ D.length (fl D) rfl ?hown ⟨w5.heap.size,0,be⟩ 1 1 x.cs rfl rfl ?hnews (df _) ?h63 ?hbytes ?hbase ?_)
   case hown=>(refine uL.out.below ?_;repeat(first|exact Ib _ _|refine I8 ?_ _|refine Below.alloc ?_ (by simp) _|refine Below.drew ?_))
   case hnews=>(intro j u hj;rw[I9];exact(ae (Ih w5 (AT #[Y x.node,Y x.bu,Y x.name,Y x.tag,U O x.addr,U O x.port,Ia x.aj,U O x.version,Ia x.gone] 46)) (0+j)).trans (by simpa[aT.cs] using hj))
   case h63=>(unfold Il;omega)
   case hbytes=>omega
   case hbase=>(simp;omega)
   intro v' w6 r1 r2 r3;have yo:Hid (Own _ _ _ _):=jK (by first|exact r1|(rw[Ig];exact r1));have vD:Hid _:=Rp.grown oO.out dn (((Ib w.heap.size w5).alloc jc (AT #[Y x.node,Y x.bu,Y x.name,Y x.tag,U O x.addr,U O x.port,Ia x.aj,U O x.version,Ia x.gone] 46)).trans ((Ib _ _).grown (w:=w5.alloc (AT #[Y x.node,Y x.bu,Y x.name,Y x.tag,U O x.addr,U O x.port,Ia x.aj,U O x.version,Ia x.gone] 46)) ⟨r2.os,r2.tape,r2.output,r2.size,r2.block⟩ (by simp;omega) (λj hj=>(uL.out.lt j hj).1)));have Po:=vD.out.2.size;obtain⟨a6,l6,c6,GR⟩:∃a l c,v'=J a l c:=bl r1;subst GR;clear r1 r2 r3 oO uL jc Rz;go_wp2_with fail;exact⟨⟨k+1,D++[x],q,a6,l6,c6,by omega,by go_num,rfl,A0,A3,vD,yo,Po⟩,by simp[intOf];omega⟩
  .have hd:decide ((k:Int)<(M:Int))=false:=by simp;omega
   have GS:Hid (E=D/\R=m):=(show _/\_ by have:=qu.out;rw[show M-k=0 by omega] at this;cases this;exact⟨rfl,rfl⟩);clear qu o8;go_wp2_with fail;go_ret;exact⟨E,R,_,rfl,GS.out.1▸HO.out.mono HH.out.r.size,HH.out.next (GS.out.2▸HP.out.1) HP.out.2 HI.out,HE.out,HI.out,HP.out.2⟩
end Sv
namespace Gw
def dC:Nat->List UInt8->List bK->Option (List bK×List UInt8)
 |0,l,D=>AI (D,l)
 |n+1,l,D=>(en l).bind λa=>dC n a.2 (D++[a.1])
def bU(l:List UInt8):Option (List bK×List UInt8):=(mH l).bind λa=>if 0<=a.1 then dC a.1.toNat a.2 [] else be
theorem gP:∀{n:Nat} {l r:List UInt8} {D E:List bK},dC n l D=AI (E,r)->l.length<=140737488355328->(∀m∈D,m.aD.size<=Il)->(∀m∈E,m.aD.size<=Il)/\r.length<=l.length
 |0,l,r,D,E,h,hl,hD=>by
  simp only[dC,It,IP] at h;obtain⟨rfl,rfl⟩:=h;exact⟨hD,Ic _⟩
 |n+1,l,r,D,E,h,hl,hD=>by
  obtain⟨⟨m,r'⟩,he,h⟩:=Iw.1 h;have hi:=gO he;have hx:=gP h (by simp only;omega) (λy hy=>by
   rcases Jx.1 hy with hy|hy
   .exact hD y hy
   .rw[Jb.1 hy]
    unfold Il;simp only;omega)
  exact⟨hx.1,by have:=hx.2;simp only at this;omega⟩
theorem eA{l r:List UInt8}{E:List bK}(h:bU l=AI (E,r))(hl:l.length<=140737488355328):(∀m∈E,m.aD.size<=Il)/\r.length<l.length:=by
 unfold bU at h;obtain⟨⟨n,r1⟩,h1,h2⟩:=Iw.1 h;have hi:=db h1;split at h2
 .have hx:=gP h2 (by simp only;omega) (λm hm=>by cases hm)
  exact⟨hx.1,by have:=hx.2;simp only at this;omega⟩
 .cases h2
abbrev GP(c g N:Nat)(W0:World):Prop:=F8 186 g N W0 #[Ie (AI ⟨g,0,be⟩),IQ (.func 187) #[] #[Ie (AI ⟨c,0,be⟩)]] bU (λD w' v=>Own W0.heap.size w' v D)
theorem og{B g c N:Nat}{W0:World}(hV:Rv B W0)(gF:B<=g)(hN:N<=16777216)(hc:W0.cell? ⟨c,0,be⟩=AI (Ie (AI ⟨g,0,be⟩)))(wT:c≠g)(o9:c<W0.heap.size):GP c g N W0:=λ{β F0 w l f} h sR aM=>by
 obtain⟨⟨E,R⟩,hn,hF⟩:=fR sR aM;have HE:Hid _:=hF;have HI:Hid _:=(eA hn (by have:=h.n;omega)).2;unfold bU at hn;have HF:Hid _:=hn.symm;obtain⟨i0,fL,dh,gW,gG⟩:=I6 Tryz.qw;have ef:∀(args:Array Value) (W:World),(OC 187 args).run Tryz.prog W=.ok (.enter 187 args) W:=enters_of Tryz.func187 (by kernel_rfl) rfl;have HN:Hid (Pm g N W0):=sO hV gF (by omega);have AZ:Hid (sP c g N W0):=sQ hV gF (by omega) hc wT o9;have HH:Hid (St g N W0 l w):=h;have dn:=h.p.hg;clear hF sR aM hn h hV gF hc wT o9;go_enter Tryz.func186,Tryz.ntmps186;go_wp2_with fail;refine(HN.out HH.out HF.out nofun).mono ?_;rintro e w1 ⟨n,r,v,rfl,⟨rfl,nO⟩,hp,hf,hl,hr⟩;have hf:AI (E,R)=if 0<=n then dC n.toNat r [] else be:=hf;have yV:0<=n:=J3 λh0=>by rw[if_neg h0] at hf;cases hf
 rw[if_pos yV] at hf;obtain⟨M,rfl⟩:∃M:Nat,n=(M:Int):=⟨n.toNat,by omega⟩;have hd:decide ((0:Int)<=(M:Int))=true:=by simp
 have hM:M<=9223372036854775807:=by have:=nO.2;omega
 have rM:Hid _:=hf;have mf:Hid _:=hp;have yK:Hid _:=hr;clear yV nO hf hp hl hr HF HN;go_wp2_with fail;refine(jo _ _).mono ?_;rintro e w4 ⟨rfl,GQ⟩;subst GQ;clear hd;have cZ:=yK.out.size;go_wp2_with fail;go_loopw [6,13] (λv i wr=>∃(k:Nat) (D:List bK) (m:List UInt8) (ao:Option Addr) (lo co:Nat),k<=M/\i=U O k/\v=J ao lo co/\Hid (AI (E,R)=dC (M-k) m D)/\Hid (D.length+m.length<=N)/\Hid (kd g m wr/\Rp g w wr)/\Hid (Own w.heap.size wr v D)/\w.heap.size<=wr.heap.size) (λ_ i _=>M-(intOf i).toNat)
 case atStart=>exact⟨0,[],r,be,0,0,II _,rfl,rfl,rM,(show _<=_ by have:=mf.out.n;simp only[IW];omega),⟨mf.out.p,yK.out⟩,bY _ _,cZ⟩
 case round=>
  obtain⟨k,D,m,ao,lo,co,hk,rfl,rfl,qu,o8,HP,HO,cF⟩:=hrel;by_cases aW:k<M
  .have hd:decide ((k:Int)<(M:Int))=true:=by simp;omega
   have sS:Hid (AI (E,R)=(en m).bind λa=>dC (M-(k+1)) a.2 (D++[a.1])):=(show _=_ by have:=qu.out;rw[show M-k=(M-(k+1))+1 by omega] at this;exact this);clear qu;go_wp2_with fail;refine(AZ.out ⟨HP.out.1,HH.out.r.trans HP.out.2,by have:=o8.out;omega⟩ sS.out nofun).mono ?_;rintro e w5 ⟨x,q,v,rfl,rfl,hp,hf,hl,hr⟩;have A0:Hid _:=hf;have A3:Hid ((D++[x]).length+q.length<=N):=(show _<=_ by have:=o8.out;rw[Ig,J9];omega);have uL:Hid (Own _ _ _ _):=hr.row HO.out dn;have oO:Hid (kd g q w5/\Rp g w w5):=⟨hp.p,HP.out.2.trans hr⟩;have jc:=Iq cF hr.size;have Rz:D.length<=16777216:=by have:=o8.out;omega
   clear hp hf hl hr sS o8 HP HO cF;unfold bK.val;go_wp2_with (at_builtin;refine Jd _ rfl _ _ 37 rfl w.heap.size 77 i0 _ 3 32 Tryz.underlying37 fL dh gW gG rfl (by omega) _ D.length (fl D) rfl ?hown ⟨w5.heap.size,0,be⟩ 1 1 x.cs rfl rfl ?hnews (df _) ?h63 ?hbytes ?hbase ?_)
   case hown=>(refine uL.out.below ?_;repeat(first|exact Ib _ _|refine I8 ?_ _|refine Below.alloc ?_ (by simp) _|refine Below.drew ?_))
   case hnews=>(intro j u hj;rw[I9];exact(ae (Ih w5 (AT #[Y x.aD,U O x.addr,U O x.version] 77)) (0+j)).trans (by simpa[bK.cs] using hj))
   case h63=>(unfold Il;omega)
   case hbytes=>omega
   case hbase=>(simp;omega)
   intro v' w6 r1 r2 r3;have yo:Hid (Own _ _ _ _):=jK (by first|exact r1|(rw[Ig];exact r1));have vD:Hid _:=Rp.grown oO.out dn (((Ib w.heap.size w5).alloc jc (AT #[Y x.aD,U O x.addr,U O x.version] 77)).trans ((Ib _ _).grown (w:=w5.alloc (AT #[Y x.aD,U O x.addr,U O x.version] 77)) ⟨r2.os,r2.tape,r2.output,r2.size,r2.block⟩ (by simp;omega) (λj hj=>(uL.out.lt j hj).1)));have Po:=vD.out.2.size;obtain⟨a6,l6,c6,GR⟩:∃a l c,v'=J a l c:=bl r1;subst GR;clear r1 r2 r3 oO uL jc Rz;go_wp2_with fail;exact⟨⟨k+1,D++[x],q,a6,l6,c6,by omega,by go_num,rfl,A0,A3,vD,yo,Po⟩,by simp[intOf];omega⟩
  .have hd:decide ((k:Int)<(M:Int))=false:=by simp;omega
   have GS:Hid (E=D/\R=m):=(show _/\_ by have:=qu.out;rw[show M-k=0 by omega] at this;cases this;exact⟨rfl,rfl⟩);clear qu o8;go_wp2_with fail;go_ret;exact⟨E,R,_,rfl,GS.out.1▸HO.out.mono HH.out.r.size,HH.out.next (GS.out.2▸HP.out.1) HP.out.2 HI.out,HE.out,HI.out,HP.out.2⟩
end Gw
namespace Wh
def dC:Nat->List UInt8->List bE->Option (List bE×List UInt8)
 |0,l,D=>AI (D,l)
 |n+1,l,D=>(en l).bind λa=>dC n a.2 (D++[a.1])
def bU(l:List UInt8):Option (List bE×List UInt8):=(mH l).bind λa=>if 0<=a.1 then dC a.1.toNat a.2 [] else be
theorem gP:∀{n:Nat} {l r:List UInt8} {D E:List bE},dC n l D=AI (E,r)->l.length<=140737488355328->(∀m∈D,m.node.size<=Il)->(∀m∈E,m.node.size<=Il)/\r.length<=l.length
 |0,l,r,D,E,h,hl,hD=>by
  simp only[dC,It,IP] at h;obtain⟨rfl,rfl⟩:=h;exact⟨hD,Ic _⟩
 |n+1,l,r,D,E,h,hl,hD=>by
  obtain⟨⟨m,r'⟩,he,h⟩:=Iw.1 h;have hi:=gO he;have hx:=gP h (by simp only;omega) (λy hy=>by
   rcases Jx.1 hy with hy|hy
   .exact hD y hy
   .rw[Jb.1 hy]
    unfold Il;simp only;omega)
  exact⟨hx.1,by have:=hx.2;simp only at this;omega⟩
theorem eA{l r:List UInt8}{E:List bE}(h:bU l=AI (E,r))(hl:l.length<=140737488355328):(∀m∈E,m.node.size<=Il)/\r.length<l.length:=by
 unfold bU at h;obtain⟨⟨n,r1⟩,h1,h2⟩:=Iw.1 h;have hi:=db h1;split at h2
 .have hx:=gP h2 (by simp only;omega) (λm hm=>by cases hm)
  exact⟨hx.1,by have:=hx.2;simp only at this;omega⟩
 .cases h2
abbrev GP(c g N:Nat)(W0:World):Prop:=F8 188 g N W0 #[Ie (AI ⟨g,0,be⟩),IQ (.func 189) #[] #[Ie (AI ⟨c,0,be⟩)]] bU (λD w' v=>Own W0.heap.size w' v D)
theorem og{B g c N:Nat}{W0:World}(hV:Rv B W0)(gF:B<=g)(hN:N<=16777216)(hc:W0.cell? ⟨c,0,be⟩=AI (Ie (AI ⟨g,0,be⟩)))(wT:c≠g)(o9:c<W0.heap.size):GP c g N W0:=λ{β F0 w l f} h sR aM=>by
 obtain⟨⟨E,R⟩,hn,hF⟩:=fR sR aM;have HE:Hid _:=hF;have HI:Hid _:=(eA hn (by have:=h.n;omega)).2;unfold bU at hn;have HF:Hid _:=hn.symm;obtain⟨i0,fL,dh,gW,gG⟩:=I6 Tryz.nt;have ef:∀(args:Array Value) (W:World),(OC 189 args).run Tryz.prog W=.ok (.enter 189 args) W:=enters_of Tryz.func189 (by kernel_rfl) rfl;have HN:Hid (Pm g N W0):=sO hV gF (by omega);have AZ:Hid (sP c g N W0):=sQ hV gF (by omega) hc wT o9;have HH:Hid (St g N W0 l w):=h;have dn:=h.p.hg;clear hF sR aM hn h hV gF hc wT o9;go_enter Tryz.func188,Tryz.ntmps188;go_wp2_with fail;refine(HN.out HH.out HF.out nofun).mono ?_;rintro e w1 ⟨n,r,v,rfl,⟨rfl,nO⟩,hp,hf,hl,hr⟩;have hf:AI (E,R)=if 0<=n then dC n.toNat r [] else be:=hf;have yV:=J3 λh0=>by rw[if_neg h0] at hf;cases hf
 rw[if_pos yV] at hf;obtain⟨M,rfl⟩:∃M:Nat,n=(M:Int):=⟨n.toNat,by omega⟩;have hd:decide ((0:Int)<=(M:Int))=true:=by simp
 have hM:M<=9223372036854775807:=by have:=nO.2;omega
 have rM:Hid _:=hf;have mf:Hid _:=hp;have yK:Hid _:=hr;clear yV nO hf hp hl hr HF HN;go_wp2_with fail;refine(jo _ _).mono ?_;rintro e w4 ⟨rfl,GQ⟩;subst GQ;clear hd;have cZ:=yK.out.size;go_wp2_with fail;go_loopw [6,13] (λv i wr=>∃(k:Nat) (D:List bE) (m:List UInt8) (ao:Option Addr) (lo co:Nat),k<=M/\i=U O k/\v=J ao lo co/\Hid (AI (E,R)=dC (M-k) m D)/\Hid (D.length+m.length<=N)/\Hid (kd g m wr/\Rp g w wr)/\Hid (Own w.heap.size wr v D)/\w.heap.size<=wr.heap.size) (λ_ i _=>M-(intOf i).toNat)
 case atStart=>exact⟨0,[],r,be,0,0,II _,rfl,rfl,rM,(show _<=_ by have:=mf.out.n;simp only[IW];omega),⟨mf.out.p,yK.out⟩,bY _ _,cZ⟩
 case round=>
  obtain⟨k,D,m,ao,lo,co,hk,rfl,rfl,qu,o8,HP,HO,cF⟩:=hrel;by_cases aW:k<M
  .have hd:decide ((k:Int)<(M:Int))=true:=by simp;omega
   have sS:Hid (AI (E,R)=(en m).bind λa=>dC (M-(k+1)) a.2 (D++[a.1])):=(show _=_ by have:=qu.out;rw[show M-k=(M-(k+1))+1 by omega] at this;exact this);clear qu;go_wp2_with fail;refine(AZ.out ⟨HP.out.1,HH.out.r.trans HP.out.2,by have:=o8.out;omega⟩ sS.out nofun).mono ?_;rintro e w5 ⟨x,q,v,rfl,rfl,hp,hf,hl,hr⟩;have A0:Hid _:=hf;have A3:Hid ((D++[x]).length+q.length<=N):=(show _<=_ by have:=o8.out;rw[Ig,J9];omega);have uL:Hid (Own _ _ _ _):=hr.row HO.out dn;have oO:Hid (kd g q w5/\Rp g w w5):=⟨hp.p,HP.out.2.trans hr⟩;have jc:=Iq cF hr.size;have Rz:D.length<=16777216:=by have:=o8.out;omega
   clear hp hf hl hr sS o8 HP HO cF;unfold bE.val;go_wp2_with (at_builtin;refine Jd _ rfl _ _ 40 rfl w.heap.size 116 i0 _ 6 56 Tryz.underlying40 fL dh gW gG rfl (by omega) _ D.length (fl D) rfl ?hown ⟨w5.heap.size,0,be⟩ 1 1 x.cs rfl rfl ?hnews (df _) ?h63 ?hbytes ?hbase ?_)
   case hown=>(refine uL.out.below ?_;repeat(first|exact Ib _ _|refine I8 ?_ _|refine Below.alloc ?_ (by simp) _|refine Below.drew ?_))
   case hnews=>(intro j u hj;rw[I9];exact(ae (Ih w5 (AT #[Y x.node,U O x.x,U O x.y,U O x.z,U O x.h,U O x.s] 116)) (0+j)).trans (by simpa[bE.cs] using hj))
   case h63=>(unfold Il;omega)
   case hbytes=>omega
   case hbase=>(simp;omega)
   intro v' w6 r1 r2 r3;have yo:Hid (Own _ _ _ _):=jK (by first|exact r1|(rw[Ig];exact r1));have vD:Hid _:=Rp.grown oO.out dn (((Ib w.heap.size w5).alloc jc (AT #[Y x.node,U O x.x,U O x.y,U O x.z,U O x.h,U O x.s] 116)).trans ((Ib _ _).grown (w:=w5.alloc (AT #[Y x.node,U O x.x,U O x.y,U O x.z,U O x.h,U O x.s] 116)) ⟨r2.os,r2.tape,r2.output,r2.size,r2.block⟩ (by simp;omega) (λj hj=>(uL.out.lt j hj).1)));have Po:=vD.out.2.size;obtain⟨a6,l6,c6,GR⟩:∃a l c,v'=J a l c:=bl r1;subst GR;clear r1 r2 r3 oO uL jc Rz;go_wp2_with fail;exact⟨⟨k+1,D++[x],q,a6,l6,c6,by omega,by go_num,rfl,A0,A3,vD,yo,Po⟩,by simp[intOf];omega⟩
  .have hd:decide ((k:Int)<(M:Int))=false:=by simp;omega
   have GS:Hid (E=D/\R=m):=(show _/\_ by have:=qu.out;rw[show M-k=0 by omega] at this;cases this;exact⟨rfl,rfl⟩);clear qu o8;go_wp2_with fail;go_ret;exact⟨E,R,_,rfl,GS.out.1▸HO.out.mono HH.out.r.size,HH.out.next (GS.out.2▸HP.out.1) HP.out.2 HI.out,HE.out,HI.out,HP.out.2⟩
end Wh
end Go.Proofs.YtfidhgjmifendaaGreatDoor
