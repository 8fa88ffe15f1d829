import Derived.Test.YtfidhgjmifendaaGreatDoorns19
set_option maxHeartbeats 6400000
set_option maxRecDepth 100000
open Option renaming none→be,some→AI,bind_eq_some_iff→Ix
open Nat renaming le_trans→Ir,le_refl→Ic,zero_le→IP
open Go.Value renaming slice→J,pointer→Ie,func→IT,int→U,string→Y,bool→Ia
open Go renaming maxLen→Il,info_parts→I6,callFunc→OA,wpList_append_own→Ja,heap_alloc_new→Ih
open Option.some renaming injEq→It
open Prod.mk renaming injEq→IS
open List renaming mem_append→Jq,mem_singleton→I8,length_nil→IV,length_append→Ig,length_singleton→Ob
open Decidable renaming byContradiction→J9
open Go.IntKind renaming i64→O
open Go.RowKit.Below renaming refl→Ib
open Go.Obj renaming cells→By
open Go.Addr renaming add_lit→I9
namespace Go.Proofs.YtfidhgjmifendaaGreatDoor
open Go.RowKit
theorem Rp.row{g base:Nat}{w w':World}{T:TypeId}{k n:Nat}{v:Value}{cs:List Value}(h:Rp g w w')(ho:w.ownsRow base T k v n cs)(hg:g<base):w'.ownsRow base T k v n cs:=by
 rcases ho.2 with⟨rfl,h0⟩|⟨b,c,cur,rfl,eD,hb,hr⟩
 .exact⟨ho.1,.inl ⟨rfl,h0⟩⟩
 .exact⟨ho.1,.inr ⟨b,c,cur,rfl,eD,h.kP (by omega) hb,hr⟩⟩
theorem Rp.grown{g:Nat}{q:List UInt8}{w w5 w6:World}(h:kF g q w5/\Rp g w w5)(hg:g<w.heap.size)(hb:Below w.heap.size w5 w6):kF g q w6/\Rp g w w6:=by
 obtain⟨h,hq⟩:=h;refine⟨⟨(hb.cell (p:=⟨g,0,be⟩) hg).trans h.c0,?_,Nat.lt_of_lt_of_le h.hg hb.size⟩,⟨hb.os.trans hq.os,hb.tape.trans hq.tape,hb.output.trans hq.output,Ir hq.size hb.size,λk hk Sq=>(hb.block k hk).trans (hq.block k hk Sq)⟩⟩;have:=h.hz;simp only[World.frozen?,hb.block g hg] at this ⊢;exact this
theorem bo{base:Nat}{w:World}{T:TypeId}{k n:Nat}{v:Value}{cs:List Value}(h:w.ownsRow base T k v n cs):∃a l c,v=J a l c:=by
 rcases h.2 with⟨hv,_⟩|⟨_,_,_,hv,_⟩
 .exact⟨_,_,_,hv⟩
 .exact⟨_,_,_,hv⟩
def dH:Nat->List UInt8->List Mem->Option (List Mem×List UInt8)
 |0,l,D=>AI (D,l)
 |n+1,l,D=>(ez l).bind λa=>dH n a.2 (D++[a.1])
def bW(l:List UInt8):Option (List Mem×List UInt8):=(mP l).bind λa=>if 0<=a.1 then dH a.1.toNat a.2 [] else be
theorem hZ:∀{n:Nat} {l r:List UInt8} {D E:List Mem},dH n l D=AI (E,r)->l.length<=140737488355328->(∀m∈D,m.name.size<=Il)->(∀m∈E,m.name.size<=Il)/\r.length<=l.length
 |0,l,r,D,E,h,hl,hD=>by
  simp only[dH,It,IS] at h;obtain⟨rfl,rfl⟩:=h;exact⟨hD,Ic _⟩
 |n+1,l,r,D,E,h,hl,hD=>by
  obtain⟨⟨m,r'⟩,he,h⟩:=Ix.1 h;have hi:=hY he;have hx:=hZ h (by simp only;omega) (λy hy=>by
   rcases Jq.1 hy with hy|hy
   .exact hD y hy
   .rw[I8.1 hy]
    unfold Il;simp only;omega)
  exact⟨hx.1,by have:=hx.2;simp only at this;omega⟩
theorem eG{l r:List UInt8}{E:List Mem}(h:bW l=AI (E,r))(hl:l.length<=140737488355328):(∀m∈E,m.name.size<=Il)/\r.length<l.length:=by
 unfold bW at h;obtain⟨⟨n,r1⟩,h1,h2⟩:=Ix.1 h;have hi:=dd h1;split at h2
 .have hx:=hZ h2 (by simp only;omega) (λm hm=>by cases hm)
  exact⟨hx.1,by have:=hx.2;simp only at this;omega⟩
 .cases h2
abbrev Kj(c g N:Nat)(W0:World):Prop:=GL 181 g N W0 #[Ie (AI ⟨g,0,be⟩),IT (.func 182) #[] #[Ie (AI ⟨c,0,be⟩)]] bW (λD w' v=>Own W0.heap.size w' v D)
theorem oT{B g c N:Nat}{W0:World}(hV:Rv B W0)(gS:B<=g)(hN:N<=16777216)(hc:W0.cell? ⟨c,0,be⟩=AI (Ie (AI ⟨g,0,be⟩)))(xE:c≠g)(qd:c<W0.heap.size):Kj c g N W0:=λ{β F0 w l f} h tG aQ=>by
 obtain⟨⟨E,R⟩,hn,hF⟩:=fZ tG aQ;have HE:Hid _:=hF;have HI:Hid _:=(eG hn (by have:=h.n;omega)).2;unfold bW at hn;have HF:Hid _:=hn.symm;obtain⟨i0,fV,di,il,gT⟩:=I6 Tryz.oU;have ef:∀(args:Array Value) (W:World),(OA 182 args).run Tryz.prog W=.ok (.enter 182 args) W:=enters_of Tryz.func182 (by kernel_rfl) rfl;have HN:Hid (PQ g N W0):=tD hV gS (by omega);have BK:Hid (tE c g N W0):=tF hV gS (by omega) hc xE qd;have HH:Hid (St g N W0 l w):=h;have du:=h.p.hg;clear hF tG aQ hn h hV gS hc xE qd;go_enter Tryz.func181,Tryz.ntmps181;go_wp2_with fail;refine(HN.out HH.out HF.out nofun).mono ?_;rintro e w1 ⟨n,r,v,rfl,⟨rfl,mI⟩,hp,hf,hl,hr⟩;have hf:AI (E,R)=if 0<=n then dH n.toNat r [] else be:=hf;have uN:=J9 λh0=>by rw[if_neg h0] at hf;cases hf
 rw[if_pos uN] at hf;obtain⟨M,rfl⟩:∃M:Nat,n=(M:Int):=⟨n.toNat,by omega⟩;have hd:decide ((0:Int)<=(M:Int))=true:=by simp
 have hM:M<=9223372036854775807:=by have:=mI.2;omega
 have sq:Hid _:=hf;have mB:Hid _:=hp;have ze:Hid _:=hr;clear uN mI hf hp hl hr HF HN;go_wp2_with fail;refine(jB _ _).mono ?_;rintro e w4 ⟨rfl,M1⟩;subst M1;clear hd;have da:=ze.out.size;go_wp2_with fail;go_loopw [6,13] (λv i wr=>∃(k:Nat) (D:List Mem) (m:List UInt8) (ao:Option Addr) (lo co:Nat),k<=M/\i=U O k/\v=J ao lo co/\Hid (AI (E,R)=dH (M-k) m D)/\Hid (D.length+m.length<=N)/\Hid (kF g m wr/\Rp g w wr)/\Hid (Own w.heap.size wr v D)/\w.heap.size<=wr.heap.size) (λ_ i _=>M-(intOf i).toNat)
 case atStart=>exact⟨0,[],r,be,0,0,IP _,rfl,rfl,sq,(show _<=_ by have:=mB.out.n;simp only[IV];omega),⟨mB.out.p,ze.out⟩,b9 _ _,da⟩
 case round=>
  obtain⟨k,D,m,ao,lo,co,hk,rfl,rfl,vu,pW,HP,HO,cI⟩:=hrel;by_cases aX:k<M
  .have hd:decide ((k:Int)<(M:Int))=true:=by simp;omega
   have tJ:Hid (AI (E,R)=(ez m).bind λa=>dH (M-(k+1)) a.2 (D++[a.1])):=(show _=_ by have:=vu.out;rw[show M-k=(M-(k+1))+1 by omega] at this;exact this);clear vu;go_wp2_with fail;refine(BK.out ⟨HP.out.1,HH.out.r.trans HP.out.2,by have:=pW.out;omega⟩ tJ.out nofun).mono ?_;rintro e w5 ⟨x,q,v,rfl,rfl,hp,hf,hl,hr⟩;have BL:Hid _:=hf;have BM:Hid ((D++[x]).length+q.length<=N):=(show _<=_ by have:=pW.out;rw[Ig,Ob];omega);have vv:Hid (Own _ _ _ _):=hr.row HO.out du;have pF:Hid (kF g q w5/\Rp g w w5):=⟨hp.p,HP.out.2.trans hr⟩;have ju:=Ir cI hr.size;have Sr:D.length<=16777216:=by have:=pW.out;omega
   clear hp hf hl hr tJ pW HP HO cI;unfold Mem.val;go_wp2_with (at_builtin;refine Ja _ rfl _ _ 34 rfl w.heap.size 50 i0 _ 5 48 Tryz.underlying34 fV di il gT rfl (by omega) _ D.length (fl D) rfl ?hown ⟨w5.heap.size,0,be⟩ 1 1 x.cs rfl rfl ?hnews (dh _) ?h63 ?hbytes ?hbase ?_)
   case hown=>(refine vv.out.below ?_;repeat(first|exact Ib _ _|refine below_drewN ?_ _|refine Below.alloc ?_ (by simp) _|refine Below.drew ?_))
   case hnews=>(intro j u hj;rw[I9];exact(ae (Ih w5 (By #[Y x.name,U O x.state,U O x.aJ,U O x.addr,Ia x.server] 50)) (0+j)).trans (by simpa[Mem.cs] using hj))
   case h63=>(unfold Il;omega)
   case hbytes=>omega
   case hbase=>(simp;omega)
   intro v' w6 r1 r2 r3;have yM:Hid (Own _ _ _ _):=jU (by first|exact r1|(rw[Ig];exact r1));have wq:Hid _:=Rp.grown pF.out du (((Ib w.heap.size w5).alloc ju (By #[Y x.name,U O x.state,U O x.aJ,U O x.addr,Ia x.server] 50)).trans ((Ib _ _).grown (w:=w5.alloc (By #[Y x.name,U O x.state,U O x.aJ,U O x.addr,Ia x.server] 50)) ⟨r2.os,r2.tape,r2.output,r2.size,r2.block⟩ (by simp;omega) (λj hj=>(vv.out.lt j hj).1)));have PM:=wq.out.2.size;obtain⟨a6,l6,c6,Kk⟩:∃a l c,v'=J a l c:=bo r1;subst Kk;clear r1 r2 r3 pF vv ju Sr;go_wp2_with fail;exact⟨⟨k+1,D++[x],q,a6,l6,c6,by omega,by go_num,rfl,BL,BM,wq,yM,PM⟩,by simp[intOf];omega⟩
  .have hd:decide ((k:Int)<(M:Int))=false:=by simp;omega
   have Kl:Hid (E=D/\R=m):=(show _/\_ by have:=vu.out;rw[show M-k=0 by omega] at this;cases this;exact⟨rfl,rfl⟩);clear vu pW;go_wp2_with fail;go_ret;exact⟨E,R,_,rfl,Kl.out.1▸HO.out.mono HH.out.r.size,HH.out.next (Kl.out.2▸HP.out.1) HP.out.2 HI.out,HE.out,HI.out,HP.out.2⟩
namespace Sv
def dH:Nat->List UInt8->List aY->Option (List aY×List UInt8)
 |0,l,D=>AI (D,l)
 |n+1,l,D=>(ez l).bind λa=>dH n a.2 (D++[a.1])
def bW(l:List UInt8):Option (List aY×List UInt8):=(mP l).bind λa=>if 0<=a.1 then dH a.1.toNat a.2 [] else be
theorem hZ:∀{n:Nat} {l r:List UInt8} {D E:List aY},dH n l D=AI (E,r)->l.length<=140737488355328->(∀m∈D,m.node.size<=Il/\m.bP.size<=Il/\m.name.size<=Il/\m.tag.size<=Il)->(∀m∈E,m.node.size<=Il/\m.bP.size<=Il/\m.name.size<=Il/\m.tag.size<=Il)/\r.length<=l.length
 |0,l,r,D,E,h,hl,hD=>by
  simp only[dH,It,IS] at h;obtain⟨rfl,rfl⟩:=h;exact⟨hD,Ic _⟩
 |n+1,l,r,D,E,h,hl,hD=>by
  obtain⟨⟨m,r'⟩,he,h⟩:=Ix.1 h;have hi:=hY he;have hx:=hZ h (by simp only;omega) (λy hy=>by
   rcases Jq.1 hy with hy|hy
   .exact hD y hy
   .rw[I8.1 hy]
    unfold Il;simp only;omega)
  exact⟨hx.1,by have:=hx.2;simp only at this;omega⟩
theorem eG{l r:List UInt8}{E:List aY}(h:bW l=AI (E,r))(hl:l.length<=140737488355328):(∀m∈E,m.node.size<=Il/\m.bP.size<=Il/\m.name.size<=Il/\m.tag.size<=Il)/\r.length<l.length:=by
 unfold bW at h;obtain⟨⟨n,r1⟩,h1,h2⟩:=Ix.1 h;have hi:=dd h1;split at h2
 .have hx:=hZ h2 (by simp only;omega) (λm hm=>by cases hm)
  exact⟨hx.1,by have:=hx.2;simp only at this;omega⟩
 .cases h2
abbrev Kj(c g N:Nat)(W0:World):Prop:=GL 184 g N W0 #[Ie (AI ⟨g,0,be⟩),IT (.func 185) #[] #[Ie (AI ⟨c,0,be⟩)]] bW (λD w' v=>Own W0.heap.size w' v D)
theorem oT{B g c N:Nat}{W0:World}(hV:Rv B W0)(gS:B<=g)(hN:N<=16777216)(hc:W0.cell? ⟨c,0,be⟩=AI (Ie (AI ⟨g,0,be⟩)))(xE:c≠g)(qd:c<W0.heap.size):Kj c g N W0:=λ{β F0 w l f} h tG aQ=>by
 obtain⟨⟨E,R⟩,hn,hF⟩:=fZ tG aQ;have HE:Hid _:=hF;have HI:Hid _:=(eG hn (by have:=h.n;omega)).2;unfold bW at hn;have HF:Hid _:=hn.symm;obtain⟨i0,fV,di,il,gT⟩:=I6 Tryz.qZ;have ef:=enters_of Tryz.func185 (by kernel_rfl) rfl;have HN:Hid (PQ g N W0):=tD hV gS (by omega);have BK:Hid (tE c g N W0):=tF hV gS (by omega) hc xE qd;have HH:Hid _:=h;have du:=h.p.hg;clear hF tG aQ hn h hV gS hc xE qd;go_enter Tryz.func184,Tryz.ntmps184;go_wp2_with fail;refine(HN.out HH.out HF.out nofun).mono ?_;rintro e w1 ⟨n,r,v,rfl,⟨rfl,mI⟩,hp,hf,hl,hr⟩;have hf:AI (E,R)=if 0<=n then dH n.toNat r [] else be:=hf;have uN:0<=n:=J9 λh0=>by rw[if_neg h0] at hf;cases hf
 rw[if_pos uN] at hf;obtain⟨M,rfl⟩:∃M:Nat,n=(M:Int):=⟨n.toNat,by omega⟩;have hd:decide ((0:Int)<=(M:Int))=true:=by simp
 have hM:M<=9223372036854775807:=by have:=mI.2;omega
 have sq:Hid _:=hf;have mB:Hid _:=hp;have ze:Hid _:=hr;clear uN mI hf hp hl hr HF HN;go_wp2_with fail;refine(jB _ _).mono ?_;rintro e w4 ⟨rfl,M1⟩;subst M1;clear hd;have da:=ze.out.size;go_wp2_with fail;go_loopw [6,13] (λv i wr=>∃(k:Nat) (D:List aY) (m:List UInt8) (ao:Option Addr) (lo co:Nat),k<=M/\i=U O k/\v=J ao lo co/\Hid (AI (E,R)=dH (M-k) m D)/\Hid (D.length+m.length<=N)/\Hid (kF g m wr/\Rp g w wr)/\Hid (Own w.heap.size wr v D)/\w.heap.size<=wr.heap.size) (λ_ i _=>M-(intOf i).toNat)
 case atStart=>exact⟨0,[],r,be,0,0,IP _,rfl,rfl,sq,(show _<=_ by have:=mB.out.n;simp only[IV];omega),⟨mB.out.p,ze.out⟩,b9 _ _,da⟩
 case round=>
  obtain⟨k,D,m,ao,lo,co,hk,rfl,rfl,vu,pW,HP,HO,cI⟩:=hrel;by_cases aX:k<M
  .have hd:decide ((k:Int)<(M:Int))=true:=by simp;omega
   have tJ:Hid (AI (E,R)=(ez m).bind λa=>dH (M-(k+1)) a.2 (D++[a.1])):=(show _=_ by have:=vu.out;rw[show M-k=(M-(k+1))+1 by omega] at this;exact this);clear vu;go_wp2_with fail;refine(BK.out ⟨HP.out.1,HH.out.r.trans HP.out.2,by have:=pW.out;omega⟩ tJ.out nofun).mono ?_;rintro e w5 ⟨x,q,v,rfl,rfl,hp,hf,hl,hr⟩;have BL:Hid _:=hf;have BM:Hid ((D++[x]).length+q.length<=N):=(show _<=_ by have:=pW.out;rw[Ig,Ob];omega);have vv:Hid (Own _ _ _ _):=hr.row HO.out du;have pF:Hid (kF g q w5/\Rp g w w5):=⟨hp.p,HP.out.2.trans hr⟩;have ju:=Ir cI hr.size;have Sr:D.length<=16777216:=by have:=pW.out;omega
   clear hp hf hl hr tJ pW HP HO cI;unfold aY.val;go_wp2_with (at_builtin;refine Ja _ rfl _ _ 36 rfl w.heap.size 46 i0 _ 9 104 Tryz.underlying36 fV di il gT rfl (by omega) _ D.length (fl D) rfl ?hown ⟨w5.heap.size,0,be⟩ 1 1 x.cs rfl rfl ?hnews (dh _) ?h63 ?hbytes ?hbase ?_)
   case hown=>(refine vv.out.below ?_;repeat(first|exact Ib _ _|refine below_drewN ?_ _|refine Below.alloc ?_ (by simp) _|refine Below.drew ?_))
   case hnews=>(intro j u hj;rw[I9];exact(ae (Ih w5 (By #[Y x.node,Y x.bP,Y x.name,Y x.tag,U O x.addr,U O x.port,Ia x.an,U O x.version,Ia x.gone] 46)) (0+j)).trans (by simpa[aY.cs] using hj))
   case h63=>(unfold Il;omega)
   case hbytes=>omega
   case hbase=>(simp;omega)
   intro v' w6 r1 r2 r3;have yM:Hid (Own _ _ _ _):=jU (by first|exact r1|(rw[Ig];exact r1));have wq:Hid _:=Rp.grown pF.out du (((Ib w.heap.size w5).alloc ju (By #[Y x.node,Y x.bP,Y x.name,Y x.tag,U O x.addr,U O x.port,Ia x.an,U O x.version,Ia x.gone] 46)).trans ((Ib _ _).grown (w:=w5.alloc (By #[Y x.node,Y x.bP,Y x.name,Y x.tag,U O x.addr,U O x.port,Ia x.an,U O x.version,Ia x.gone] 46)) ⟨r2.os,r2.tape,r2.output,r2.size,r2.block⟩ (by simp;omega) (λj hj=>(vv.out.lt j hj).1)));have PM:=wq.out.2.size;obtain⟨a6,l6,c6,Kk⟩:∃a l c,v'=J a l c:=bo r1;subst Kk;clear r1 r2 r3 pF vv ju Sr;go_wp2_with fail;exact⟨⟨k+1,D++[x],q,a6,l6,c6,by omega,by go_num,rfl,BL,BM,wq,yM,PM⟩,by simp[intOf];omega⟩
  .have hd:decide ((k:Int)<(M:Int))=false:=by simp;omega
   have Kl:Hid (E=D/\R=m):=(show _/\_ by have:=vu.out;rw[show M-k=0 by omega] at this;cases this;exact⟨rfl,rfl⟩);clear vu pW;go_wp2_with fail;go_ret;exact⟨E,R,_,rfl,Kl.out.1▸HO.out.mono HH.out.r.size,HH.out.next (Kl.out.2▸HP.out.1) HP.out.2 HI.out,HE.out,HI.out,HP.out.2⟩
end Sv
namespace Gw
def dH:Nat->List UInt8->List bL->Option (List bL×List UInt8)
 |0,l,D=>AI (D,l)
 |n+1,l,D=>(ez l).bind λa=>dH n a.2 (D++[a.1])
def bW(l:List UInt8):Option (List bL×List UInt8):=(mP l).bind λa=>if 0<=a.1 then dH a.1.toNat a.2 [] else be
theorem hZ:∀{n:Nat} {l r:List UInt8} {D E:List bL},dH n l D=AI (E,r)->l.length<=140737488355328->(∀m∈D,m.aD.size<=Il)->(∀m∈E,m.aD.size<=Il)/\r.length<=l.length
 |0,l,r,D,E,h,hl,hD=>by
  simp only[dH,It,IS] at h;obtain⟨rfl,rfl⟩:=h;exact⟨hD,Ic _⟩
 |n+1,l,r,D,E,h,hl,hD=>by
  obtain⟨⟨m,r'⟩,he,h⟩:=Ix.1 h;have hi:=hY he;have hx:=hZ h (by simp only;omega) (λy hy=>by
   rcases Jq.1 hy with hy|hy
   .exact hD y hy
   .rw[I8.1 hy]
    unfold Il;simp only;omega)
  exact⟨hx.1,by have:=hx.2;simp only at this;omega⟩
theorem eG{l r:List UInt8}{E:List bL}(h:bW l=AI (E,r))(hl:l.length<=140737488355328):(∀m∈E,m.aD.size<=Il)/\r.length<l.length:=by
 unfold bW at h;obtain⟨⟨n,r1⟩,h1,h2⟩:=Ix.1 h;have hi:=dd h1;split at h2
 .have hx:=hZ h2 (by simp only;omega) (λm hm=>by cases hm)
  exact⟨hx.1,by have:=hx.2;simp only at this;omega⟩
 .cases h2
abbrev Kj(c g N:Nat)(W0:World):Prop:=GL 186 g N W0 #[Ie (AI ⟨g,0,be⟩),IT (.func 187) #[] #[Ie (AI ⟨c,0,be⟩)]] bW (λD w' v=>Own W0.heap.size w' v D)
theorem oT{B g c N:Nat}{W0:World}(hV:Rv B W0)(gS:B<=g)(hN:N<=16777216)(hc:W0.cell? ⟨c,0,be⟩=AI (Ie (AI ⟨g,0,be⟩)))(xE:c≠g)(qd:c<W0.heap.size):Kj c g N W0:=λ{β F0 w l f} h tG aQ=>by
 obtain⟨⟨E,R⟩,hn,hF⟩:=fZ tG aQ;have HE:Hid _:=hF;have HI:Hid _:=(eG hn (by have:=h.n;omega)).2;unfold bW at hn;have HF:Hid _:=hn.symm;obtain⟨i0,fV,di,il,gT⟩:=I6 Tryz.rl;have ef:∀(args:Array Value) (W:World),(OA 187 args).run Tryz.prog W=.ok (.enter 187 args) W:=enters_of Tryz.func187 (by kernel_rfl) rfl;have HN:Hid (PQ g N W0):=tD hV gS (by omega);have BK:Hid (tE c g N W0):=tF hV gS (by omega) hc xE qd;have HH:Hid (St g N W0 l w):=h;have du:=h.p.hg;clear hF tG aQ hn h hV gS hc xE qd;go_enter Tryz.func186,Tryz.ntmps186;go_wp2_with fail;refine(HN.out HH.out HF.out nofun).mono ?_;rintro e w1 ⟨n,r,v,rfl,⟨rfl,mI⟩,hp,hf,hl,hr⟩;have hf:AI (E,R)=if 0<=n then dH n.toNat r [] else be:=hf;have uN:0<=n:=J9 λh0=>by rw[if_neg h0] at hf;cases hf
 rw[if_pos uN] at hf;obtain⟨M,rfl⟩:∃M:Nat,n=(M:Int):=⟨n.toNat,by omega⟩;have hd:decide ((0:Int)<=(M:Int))=true:=by simp
 have hM:M<=9223372036854775807:=by have:=mI.2;omega
 have sq:Hid _:=hf;have mB:Hid _:=hp;have ze:Hid _:=hr;clear uN mI hf hp hl hr HF HN;go_wp2_with fail;refine(jB _ _).mono ?_;rintro e w4 ⟨rfl,M1⟩;subst M1;clear hd;have da:=ze.out.size;go_wp2_with fail;go_loopw [6,13] (λv i wr=>∃(k:Nat) (D:List bL) (m:List UInt8) (ao:Option Addr) (lo co:Nat),k<=M/\i=U O k/\v=J ao lo co/\Hid (AI (E,R)=dH (M-k) m D)/\Hid (D.length+m.length<=N)/\Hid (kF g m wr/\Rp g w wr)/\Hid (Own w.heap.size wr v D)/\w.heap.size<=wr.heap.size) (λ_ i _=>M-(intOf i).toNat)
 case atStart=>exact⟨0,[],r,be,0,0,IP _,rfl,rfl,sq,(show _<=_ by have:=mB.out.n;simp only[IV];omega),⟨mB.out.p,ze.out⟩,b9 _ _,da⟩
 case round=>
  obtain⟨k,D,m,ao,lo,co,hk,rfl,rfl,vu,pW,HP,HO,cI⟩:=hrel;by_cases aX:k<M
  .have hd:decide ((k:Int)<(M:Int))=true:=by simp;omega
   have tJ:Hid (AI (E,R)=(ez m).bind λa=>dH (M-(k+1)) a.2 (D++[a.1])):=(show _=_ by have:=vu.out;rw[show M-k=(M-(k+1))+1 by omega] at this;exact this);clear vu;go_wp2_with fail;refine(BK.out ⟨HP.out.1,HH.out.r.trans HP.out.2,by have:=pW.out;omega⟩ tJ.out nofun).mono ?_;rintro e w5 ⟨x,q,v,rfl,rfl,hp,hf,hl,hr⟩;have BL:Hid _:=hf;have BM:Hid ((D++[x]).length+q.length<=N):=(show _<=_ by have:=pW.out;rw[Ig,Ob];omega);have vv:Hid (Own _ _ _ _):=hr.row HO.out du;have pF:Hid (kF g q w5/\Rp g w w5):=⟨hp.p,HP.out.2.trans hr⟩;have ju:=Ir cI hr.size;have Sr:D.length<=16777216:=by have:=pW.out;omega
   clear hp hf hl hr tJ pW HP HO cI;unfold bL.val;go_wp2_with (at_builtin;refine Ja _ rfl _ _ 37 rfl w.heap.size 77 i0 _ 3 32 Tryz.underlying37 fV di il gT rfl (by omega) _ D.length (fl D) rfl ?hown ⟨w5.heap.size,0,be⟩ 1 1 x.cs rfl rfl ?hnews (dh _) ?h63 ?hbytes ?hbase ?_)
   case hown=>(refine vv.out.below ?_;repeat(first|exact Ib _ _|refine below_drewN ?_ _|refine Below.alloc ?_ (by simp) _|refine Below.drew ?_))
   case hnews=>(intro j u hj;rw[I9];exact(ae (Ih w5 (By #[Y x.aD,U O x.addr,U O x.version] 77)) (0+j)).trans (by simpa[bL.cs] using hj))
   case h63=>(unfold Il;omega)
   case hbytes=>omega
   case hbase=>(simp;omega)
   intro v' w6 r1 r2 r3;have yM:Hid (Own _ _ _ _):=jU (by first|exact r1|(rw[Ig];exact r1));have wq:Hid _:=Rp.grown pF.out du (((Ib w.heap.size w5).alloc ju (By #[Y x.aD,U O x.addr,U O x.version] 77)).trans ((Ib _ _).grown (w:=w5.alloc (By #[Y x.aD,U O x.addr,U O x.version] 77)) ⟨r2.os,r2.tape,r2.output,r2.size,r2.block⟩ (by simp;omega) (λj hj=>(vv.out.lt j hj).1)));have PM:=wq.out.2.size;obtain⟨a6,l6,c6,Kk⟩:∃a l c,v'=J a l c:=bo r1;subst Kk;clear r1 r2 r3 pF vv ju Sr;go_wp2_with fail;exact⟨⟨k+1,D++[x],q,a6,l6,c6,by omega,by go_num,rfl,BL,BM,wq,yM,PM⟩,by simp[intOf];omega⟩
  .have hd:decide ((k:Int)<(M:Int))=false:=by simp;omega
   have Kl:Hid (E=D/\R=m):=(show _/\_ by have:=vu.out;rw[show M-k=0 by omega] at this;cases this;exact⟨rfl,rfl⟩);clear vu pW;go_wp2_with fail;go_ret;exact⟨E,R,_,rfl,Kl.out.1▸HO.out.mono HH.out.r.size,HH.out.next (Kl.out.2▸HP.out.1) HP.out.2 HI.out,HE.out,HI.out,HP.out.2⟩
end Gw
namespace Wh
def dH:Nat->List UInt8->List bK->Option (List bK×List UInt8)
 |0,l,D=>AI (D,l)
 |n+1,l,D=>(ez l).bind λa=>dH n a.2 (D++[a.1])
def bW(l:List UInt8):Option (List bK×List UInt8):=(mP l).bind λa=>if 0<=a.1 then dH a.1.toNat a.2 [] else be
theorem hZ:∀{n:Nat} {l r:List UInt8} {D E:List bK},dH n l D=AI (E,r)->l.length<=140737488355328->(∀m∈D,m.node.size<=Il)->(∀m∈E,m.node.size<=Il)/\r.length<=l.length
 |0,l,r,D,E,h,hl,hD=>by
  simp only[dH,It,IS] at h;obtain⟨rfl,rfl⟩:=h;exact⟨hD,Ic _⟩
 |n+1,l,r,D,E,h,hl,hD=>by
  obtain⟨⟨m,r'⟩,he,h⟩:=Ix.1 h;have hi:=hY he;have hx:=hZ h (by simp only;omega) (λy hy=>by
   rcases Jq.1 hy with hy|hy
   .exact hD y hy
   .rw[I8.1 hy]
    unfold Il;simp only;omega)
  exact⟨hx.1,by have:=hx.2;simp only at this;omega⟩
theorem eG{l r:List UInt8}{E:List bK}(h:bW l=AI (E,r))(hl:l.length<=140737488355328):(∀m∈E,m.node.size<=Il)/\r.length<l.length:=by
 unfold bW at h;obtain⟨⟨n,r1⟩,h1,h2⟩:=Ix.1 h;have hi:=dd h1;split at h2
 .have hx:=hZ h2 (by simp only;omega) (λm hm=>by cases hm)
  exact⟨hx.1,by have:=hx.2;simp only at this;omega⟩
 .cases h2
abbrev Kj(c g N:Nat)(W0:World):Prop:=GL 188 g N W0 #[Ie (AI ⟨g,0,be⟩),IT (.func 189) #[] #[Ie (AI ⟨c,0,be⟩)]] bW (λD w' v=>Own W0.heap.size w' v D)
theorem oT{B g c N:Nat}{W0:World}(hV:Rv B W0)(gS:B<=g)(hN:N<=16777216)(hc:W0.cell? ⟨c,0,be⟩=AI (Ie (AI ⟨g,0,be⟩)))(xE:c≠g)(qd:c<W0.heap.size):Kj c g N W0:=λ{β F0 w l f} h tG aQ=>by
 obtain⟨⟨E,R⟩,hn,hF⟩:=fZ tG aQ;have HE:Hid _:=hF;have HI:Hid _:=(eG hn (by have:=h.n;omega)).2;unfold bW at hn;have HF:Hid _:=hn.symm;obtain⟨i0,fV,di,il,gT⟩:=I6 Tryz.nO;have ef:∀(args:Array Value) (W:World),(OA 189 args).run Tryz.prog W=.ok (.enter 189 args) W:=enters_of Tryz.func189 (by kernel_rfl) rfl;have HN:Hid (PQ g N W0):=tD hV gS (by omega);have BK:Hid (tE c g N W0):=tF hV gS (by omega) hc xE qd;have HH:Hid (St g N W0 l w):=h;have du:=h.p.hg;clear hF tG aQ hn h hV gS hc xE qd;go_enter Tryz.func188,Tryz.ntmps188;go_wp2_with fail;refine(HN.out HH.out HF.out nofun).mono ?_;rintro e w1 ⟨n,r,v,rfl,⟨rfl,mI⟩,hp,hf,hl,hr⟩;have hf:AI (E,R)=if 0<=n then dH n.toNat r [] else be:=hf;have uN:=J9 λh0=>by rw[if_neg h0] at hf;cases hf
 rw[if_pos uN] at hf;obtain⟨M,rfl⟩:∃M:Nat,n=(M:Int):=⟨n.toNat,by omega⟩;have hd:decide ((0:Int)<=(M:Int))=true:=by simp
 have hM:M<=9223372036854775807:=by have:=mI.2;omega
 have sq:Hid _:=hf;have mB:Hid _:=hp;have ze:Hid _:=hr;clear uN mI hf hp hl hr HF HN;go_wp2_with fail;refine(jB _ _).mono ?_;rintro e w4 ⟨rfl,M1⟩;subst M1;clear hd;have da:=ze.out.size;go_wp2_with fail;go_loopw [6,13] (λv i wr=>∃(k:Nat) (D:List bK) (m:List UInt8) (ao:Option Addr) (lo co:Nat),k<=M/\i=U O k/\v=J ao lo co/\Hid (AI (E,R)=dH (M-k) m D)/\Hid (D.length+m.length<=N)/\Hid (kF g m wr/\Rp g w wr)/\Hid (Own w.heap.size wr v D)/\w.heap.size<=wr.heap.size) (λ_ i _=>M-(intOf i).toNat)
 case atStart=>exact⟨0,[],r,be,0,0,IP _,rfl,rfl,sq,(show _<=_ by have:=mB.out.n;simp only[IV];omega),⟨mB.out.p,ze.out⟩,b9 _ _,da⟩
 case round=>
  obtain⟨k,D,m,ao,lo,co,hk,rfl,rfl,vu,pW,HP,HO,cI⟩:=hrel;by_cases aX:k<M
  .have hd:decide ((k:Int)<(M:Int))=true:=by simp;omega
   have tJ:Hid (AI (E,R)=(ez m).bind λa=>dH (M-(k+1)) a.2 (D++[a.1])):=(show _=_ by have:=vu.out;rw[show M-k=(M-(k+1))+1 by omega] at this;exact this);clear vu;go_wp2_with fail;refine(BK.out ⟨HP.out.1,HH.out.r.trans HP.out.2,by have:=pW.out;omega⟩ tJ.out nofun).mono ?_;rintro e w5 ⟨x,q,v,rfl,rfl,hp,hf,hl,hr⟩;have BL:Hid _:=hf;have BM:Hid ((D++[x]).length+q.length<=N):=(show _<=_ by have:=pW.out;rw[Ig,Ob];omega);have vv:Hid (Own _ _ _ _):=hr.row HO.out du;have pF:Hid (kF g q w5/\Rp g w w5):=⟨hp.p,HP.out.2.trans hr⟩;have ju:=Ir cI hr.size;have Sr:D.length<=16777216:=by have:=pW.out;omega
   clear hp hf hl hr tJ pW HP HO cI;unfold bK.val;go_wp2_with (at_builtin;refine Ja _ rfl _ _ 40 rfl w.heap.size 116 i0 _ 6 56 Tryz.underlying40 fV di il gT rfl (by omega) _ D.length (fl D) rfl ?hown ⟨w5.heap.size,0,be⟩ 1 1 x.cs rfl rfl ?hnews (dh _) ?h63 ?hbytes ?hbase ?_)
   case hown=>(refine vv.out.below ?_;repeat(first|exact Ib _ _|refine below_drewN ?_ _|refine Below.alloc ?_ (by simp) _|refine Below.drew ?_))
   case hnews=>(intro j u hj;rw[I9];exact(ae (Ih w5 (By #[Y x.node,U O x.x,U O x.y,U O x.z,U O x.h,U O x.s] 116)) (0+j)).trans (by simpa[bK.cs] using hj))
   case h63=>(unfold Il;omega)
   case hbytes=>omega
   case hbase=>(simp;omega)
   intro v' w6 r1 r2 r3;have yM:Hid (Own _ _ _ _):=jU (by first|exact r1|(rw[Ig];exact r1));have wq:Hid _:=Rp.grown pF.out du (((Ib w.heap.size w5).alloc ju (By #[Y x.node,U O x.x,U O x.y,U O x.z,U O x.h,U O x.s] 116)).trans ((Ib _ _).grown (w:=w5.alloc (By #[Y x.node,U O x.x,U O x.y,U O x.z,U O x.h,U O x.s] 116)) ⟨r2.os,r2.tape,r2.output,r2.size,r2.block⟩ (by simp;omega) (λj hj=>(vv.out.lt j hj).1)));have PM:=wq.out.2.size;obtain⟨a6,l6,c6,Kk⟩:∃a l c,v'=J a l c:=bo r1;subst Kk;clear r1 r2 r3 pF vv ju Sr;go_wp2_with fail;exact⟨⟨k+1,D++[x],q,a6,l6,c6,by omega,by go_num,rfl,BL,BM,wq,yM,PM⟩,by simp[intOf];omega⟩
  .have hd:decide ((k:Int)<(M:Int))=false:=by simp;omega
   have Kl:Hid (E=D/\R=m):=(show _/\_ by have:=vu.out;rw[show M-k=0 by omega] at this;cases this;exact⟨rfl,rfl⟩);clear vu pW;go_wp2_with fail;go_ret;exact⟨E,R,_,rfl,Kl.out.1▸HO.out.mono HH.out.r.size,HH.out.next (Kl.out.2▸HP.out.1) HP.out.2 HI.out,HE.out,HI.out,HP.out.2⟩
end Wh
end Go.Proofs.YtfidhgjmifendaaGreatDoor
