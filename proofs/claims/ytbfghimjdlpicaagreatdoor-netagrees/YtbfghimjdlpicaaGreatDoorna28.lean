import Derived.Test.YtbfghimjdlpicaaGreatDoorna27
set_option maxHeartbeats 12800000
set_option maxRecDepth 100000
open Option renaming none→be,some→AI,bind_eq_some_iff→Iz
open Nat renaming le_trans→Is,le_refl→Ie,zero_le→IF
open Go.Value renaming slice→J,pointer→If,func→IQ,int→U,string→Y,bool→Ia
open Go renaming maxLen→Io,info_parts→I9,callFunc→OC,wpList_append_own→IZ,heap_alloc_new→Ij
open Option.some renaming injEq→Iu
open Prod.mk renaming injEq→IU
open List renaming mem_append→Jk,mem_singleton→IY,length_nil→IX,length_append→Ii,length_singleton→Og
open Decidable renaming byContradiction→Oc
open Go.IntKind renaming i64→O
open Go.RowKit.Below renaming refl→Ib,alloc→O3,drew→O8
open Go.Obj renaming cells→By
open Go.Addr renaming add_lit→I5
namespace Go.Proofs.YtbfghimjdlpicaaGreatDoor
open Go.RowKit
theorem Rp.row{g base:Nat}{w w':World}{T:TypeId}{k n:Nat}{v:Value}{cs:List Value}(h:Rp g w w')(ho:w.ownsRow base T k v n cs)(hg:g<base):w'.ownsRow base T k v n cs:=by
 rcases ho.2 with⟨rfl,h0⟩|⟨b,c,cur,rfl,eX,hb,hr⟩
 .exact⟨ho.1,.inl ⟨rfl,h0⟩⟩
 .exact⟨ho.1,.inr ⟨b,c,cur,rfl,eX,h.lW (by omega) hb,hr⟩⟩
theorem Rp.grown{g:Nat}{q:List UInt8}{w w5 w6:World}(h:lL g q w5/\Rp g w w5)(hg:g<w.heap.size)(hb:Below w.heap.size w5 w6):lL g q w6/\Rp g w w6:=by
 obtain⟨h,hq⟩:=h;refine⟨⟨(hb.cell (p:=⟨g,0,be⟩) hg).trans h.c0,?_,Nat.lt_of_lt_of_le h.hg hb.size⟩,⟨hb.os.trans hq.os,hb.tape.trans hq.tape,hb.output.trans hq.output,Is hq.size hb.size,λk hk Ws=>(hb.block k hk).trans (hq.block k hk Ws)⟩⟩;have:=h.hz;simp only[World.frozen?,hb.block g hg] at this ⊢;exact this
theorem bC{base:Nat}{w:World}{T:TypeId}{k n:Nat}{v:Value}{cs:List Value}(h:w.ownsRow base T k v n cs):∃a l c,v=J a l c:=by
 rcases h.2 with⟨hv,_⟩|⟨_,_,_,hv,_⟩
 .exact⟨_,_,_,hv⟩
 .exact⟨_,_,_,hv⟩
def dW:Nat->List UInt8->List Mem->Option (List Mem×List UInt8)
 |0,l,D=>AI (D,l)
 |n+1,l,D=>(eT l).bind λa=>dW n a.2 (D++[a.1])
def cy(l:List UInt8):Option (List Mem×List UInt8):=(oD l).bind λa=>if 0<=a.1 then dW a.1.toNat a.2 [] else be
theorem iT:∀{n:Nat} {l r:List UInt8} {D E:List Mem},dW n l D=AI (E,r)->l.length<=140737488355328->(∀m∈D,m.name.size<=Io)->(∀m∈E,m.name.size<=Io)/\r.length<=l.length
 |0,l,r,D,E,h,hl,hD=>by
  simp only[dW,Iu,IU] at h;obtain⟨rfl,rfl⟩:=h;exact⟨hD,Ie _⟩
 |n+1,l,r,D,E,h,hl,hD=>by
  obtain⟨⟨m,r'⟩,he,h⟩:=Iz.1 h;have hi:=iS he;have hx:=iT h (by simp only;omega) (λy hy=>by
   rcases Jk.1 hy with hy|hy
   .exact hD y hy
   .rw[IY.1 hy]
    unfold Io;simp only;omega)
  exact⟨hx.1,by have:=hx.2;simp only at this;omega⟩
theorem fg{l r:List UInt8}{E:List Mem}(h:cy l=AI (E,r))(hl:l.length<=140737488355328):(∀m∈E,m.name.size<=Io)/\r.length<l.length:=by
 unfold cy at h;obtain⟨⟨n,r1⟩,h1,h2⟩:=Iz.1 h;have hi:=dG h1;split at h2
 .have hx:=iT h2 (by simp only;omega) (λm hm=>by cases hm)
  exact⟨hx.1,by have:=hx.2;simp only at this;omega⟩
 .cases h2
abbrev Nq(c g N:Nat)(W0:World):Prop:=LN 212 g N W0 #[If (AI ⟨g,0,be⟩),IQ (.func 213) #[] #[If (AI ⟨c,0,be⟩)]] cy (λD w' v=>Own W0.heap.size w' v D)
theorem qO{B g c N:Nat}{W0:World}(hV:Rv B W0)(iG:B<=g)(hN:N<=16777216)(hc:W0.cell? ⟨c,0,be⟩=AI (If (AI ⟨g,0,be⟩)))(zD:c≠g)(rA:c<W0.heap.size):Nq c g N W0:=λ{β F0 w l f} h vG aP=>by
 obtain⟨⟨E,R⟩,hn,hF⟩:=gU vG aP;have HE:Hid _:=hF;have HI:Hid _:=(fg hn (by have:=h.n;omega)).2;unfold cy at hn;have HF:Hid _:=hn.symm;obtain⟨i0,fH,dt,gJ,gB⟩:=I9 Tryz.qm;have ef:∀(args:Array Value) (W:World),(OC 213 args).run Tryz.prog W=.ok (.enter 213 args) W:=enters_of Tryz.func213 (by kernel_rfl) rfl;have HN:Hid (Vs g N W0):=vD hV iG (by omega);have DI:Hid (vE c g N W0):=vF hV iG (by omega) hc zD rA;have HH:Hid (St g N W0 l w):=h;have dv:=h.p.hg;clear hF vG aP hn h hV iG hc zD rA;go_enter Tryz.func212,Tryz.ntmps212;go_wp2_with fail;refine(HN.out HH.out HF.out nofun).mono ?_;rintro e w1 ⟨n,r,v,rfl,⟨rfl,o5⟩,hp,hf,hl,hr⟩;have hf:AI (E,R)=if 0<=n then dW n.toNat r [] else be:=hf;have uk:=Oc λh0=>by rw[if_neg h0] at hf;cases hf
 rw[if_pos uk] at hf;obtain⟨M,rfl⟩:∃M:Nat,n=(M:Int):=⟨n.toNat,by omega⟩;have hd:decide ((0:Int)<=(M:Int))=true:=by simp
 have hM:M<=9223372036854775807:=by have:=o5.2;omega
 have tM:Hid _:=hf;have nO:Hid _:=hp;have yQ:Hid _:=hr;clear uk o5 hf hp hl hr HF HN;go_wp2_with fail;refine(kx _ _).mono ?_;rintro e w4 ⟨rfl,Sz⟩;subst Sz;clear hd;have dD:=yQ.out.size;go_wp2_with fail;go_loopw [6,13] (λv i wr=>∃(k:Nat) (D:List Mem) (m:List UInt8) (ao:Option Addr) (lo co:Nat),k<=M/\i=U O k/\v=J ao lo co/\Hid (AI (E,R)=dW (M-k) m D)/\Hid (D.length+m.length<=N)/\Hid (lL g m wr/\Rp g w wr)/\Hid (Own w.heap.size wr v D)/\w.heap.size<=wr.heap.size) (λ_ i _=>M-(intOf i).toNat)
 case atStart=>exact⟨0,[],r,be,0,0,IF _,rfl,rfl,tM,(show _<=_ by have:=nO.out.n;simp only[IX];omega),⟨nO.out.p,yQ.out⟩,cv _ _,dD⟩
 case round=>
  obtain⟨k,D,m,ao,lo,co,hk,rfl,rfl,xk,pM,HP,HO,cB⟩:=hrel;by_cases aX:k<M
  .have hd:decide ((k:Int)<(M:Int))=true:=by simp;omega
   have vH:Hid (AI (E,R)=(eT m).bind λa=>dW (M-(k+1)) a.2 (D++[a.1])):=(show _=_ by have:=xk.out;rw[show M-k=(M-(k+1))+1 by omega] at this;exact this);clear xk;go_wp2_with fail;refine(DI.out ⟨HP.out.1,HH.out.r.trans HP.out.2,by have:=pM.out;omega⟩ vH.out nofun).mono ?_;rintro e w5 ⟨x,q,v,rfl,rfl,hp,hf,hl,hr⟩;have DJ:Hid _:=hf;have DK:Hid ((D++[x]).length+q.length<=N):=(show _<=_ by have:=pM.out;rw[Ii,Og];omega);have xq:Hid (Own _ _ _ _):=hr.row HO.out dv;have qX:Hid (lL g q w5/\Rp g w w5):=⟨hp.p,HP.out.2.trans hr⟩;have jV:=Is cB hr.size;have Xl:D.length<=16777216:=by have:=pM.out;omega
   clear hp hf hl hr vH pM HP HO cB;unfold Mem.val;go_wp2_with (at_builtin;refine IZ _ rfl _ _ 45 rfl w.heap.size 52 i0 _ 5 48 Tryz.underlying45 fH dt gJ gB rfl (by omega) _ D.length (fl D) rfl ?hown ⟨w5.heap.size,0,be⟩ 1 1 x.cs rfl rfl ?hnews (cX _) ?h63 ?hbytes ?hbase ?_)
   case hown=>(refine xq.out.below ?_;repeat(first|exact Ib _ _|refine below_drewN ?_ _|refine O3 ?_ (by simp) _|refine O8 ?_))
   case hnews=>(intro j u hj;rw[I5];exact(ae (Ij w5 (By #[Y x.name,U O x.state,U O x.aI,U O x.addr,Ia x.server] 52)) (0+j)).trans (by simpa[Mem.cs] using hj))
   case h63=>(unfold Io;omega)
   case hbytes=>omega
   case hbase=>(simp;omega)
   intro v' w6 r1 r2 r3;have Ar:Hid (Own _ _ _ _):=fe (by first|exact r1|(rw[Ii];exact r1));have yj:Hid _:=Rp.grown qX.out dv (((Ib w.heap.size w5).alloc jV (By #[Y x.name,U O x.state,U O x.aI,U O x.addr,Ia x.server] 52)).trans ((Ib _ _).grown (w:=w5.alloc (By #[Y x.name,U O x.state,U O x.aI,U O x.addr,Ia x.server] 52)) ⟨r2.os,r2.tape,r2.output,r2.size,r2.block⟩ (by simp;omega) (λj hj=>(xq.out.lt j hj).1)));have T1:=yj.out.2.size;obtain⟨a6,l6,c6,Nr⟩:∃a l c,v'=J a l c:=bC r1;subst Nr;clear r1 r2 r3 qX xq jV Xl;go_wp2_with fail;exact⟨⟨k+1,D++[x],q,a6,l6,c6,by omega,by go_num,rfl,DJ,DK,yj,Ar,T1⟩,by simp[intOf];omega⟩
  .have hd:decide ((k:Int)<(M:Int))=false:=by simp;omega
   have Ns:Hid (E=D/\R=m):=(show _/\_ by have:=xk.out;rw[show M-k=0 by omega] at this;cases this;exact⟨rfl,rfl⟩);clear xk pM;go_wp2_with fail;go_ret;exact⟨E,R,_,rfl,Ns.out.1▸HO.out.mono HH.out.r.size,HH.out.next (Ns.out.2▸HP.out.1) HP.out.2 HI.out,HE.out,HI.out,HP.out.2⟩
namespace Sv
def dW:Nat->List UInt8->List aV->Option (List aV×List UInt8)
 |0,l,D=>AI (D,l)
 |n+1,l,D=>(eT l).bind λa=>dW n a.2 (D++[a.1])
def cy(l:List UInt8):Option (List aV×List UInt8):=(oD l).bind λa=>if 0<=a.1 then dW a.1.toNat a.2 [] else be
theorem iT:∀{n:Nat} {l r:List UInt8} {D E:List aV},dW n l D=AI (E,r)->l.length<=140737488355328->(∀m∈D,m.node.size<=Io/\m.bf.size<=Io/\m.name.size<=Io/\m.tag.size<=Io)->(∀m∈E,m.node.size<=Io/\m.bf.size<=Io/\m.name.size<=Io/\m.tag.size<=Io)/\r.length<=l.length
 |0,l,r,D,E,h,hl,hD=>by
  simp only[dW,Iu,IU] at h;obtain⟨rfl,rfl⟩:=h;exact⟨hD,Ie _⟩
 |n+1,l,r,D,E,h,hl,hD=>by
  obtain⟨⟨m,r'⟩,he,h⟩:=Iz.1 h;have hi:=iS he;have hx:=iT h (by simp only;omega) (λy hy=>by
   rcases Jk.1 hy with hy|hy
   .exact hD y hy
   .rw[IY.1 hy]
    unfold Io;simp only;omega)
  exact⟨hx.1,by have:=hx.2;simp only at this;omega⟩
theorem fg{l r:List UInt8}{E:List aV}(h:cy l=AI (E,r))(hl:l.length<=140737488355328):(∀m∈E,m.node.size<=Io/\m.bf.size<=Io/\m.name.size<=Io/\m.tag.size<=Io)/\r.length<l.length:=by
 unfold cy at h;obtain⟨⟨n,r1⟩,h1,h2⟩:=Iz.1 h;have hi:=dG h1;split at h2
 .have hx:=iT h2 (by simp only;omega) (λm hm=>by cases hm)
  exact⟨hx.1,by have:=hx.2;simp only at this;omega⟩
 .cases h2
abbrev Nq(c g N:Nat)(W0:World):Prop:=LN 215 g N W0 #[If (AI ⟨g,0,be⟩),IQ (.func 216) #[] #[If (AI ⟨c,0,be⟩)]] cy (λD w' v=>Own W0.heap.size w' v D)
theorem qO{B g c N:Nat}{W0:World}(hV:Rv B W0)(iG:B<=g)(hN:N<=16777216)(hc:W0.cell? ⟨c,0,be⟩=AI (If (AI ⟨g,0,be⟩)))(zD:c≠g)(rA:c<W0.heap.size):Nq c g N W0:=λ{β F0 w l f} h vG aP=>by
 obtain⟨⟨E,R⟩,hn,hF⟩:=gU vG aP;have HE:Hid _:=hF;have HI:Hid _:=(fg hn (by have:=h.n;omega)).2;unfold cy at hn;have HF:Hid _:=hn.symm;obtain⟨i0,fH,dt,gJ,gB⟩:=I9 Tryz.qH;have ef:=enters_of Tryz.func216 (by kernel_rfl) rfl;have HN:Hid (Vs g N W0):=vD hV iG (by omega);have DI:Hid (vE c g N W0):=vF hV iG (by omega) hc zD rA;have HH:Hid _:=h;have dv:=h.p.hg;clear hF vG aP hn h hV iG hc zD rA;go_enter Tryz.func215,Tryz.ntmps215;go_wp2_with fail;refine(HN.out HH.out HF.out nofun).mono ?_;rintro e w1 ⟨n,r,v,rfl,⟨rfl,o5⟩,hp,hf,hl,hr⟩;have hf:AI (E,R)=if 0<=n then dW n.toNat r [] else be:=hf;have uk:0<=n:=Oc λh0=>by rw[if_neg h0] at hf;cases hf
 rw[if_pos uk] at hf;obtain⟨M,rfl⟩:∃M:Nat,n=(M:Int):=⟨n.toNat,by omega⟩;have hd:decide ((0:Int)<=(M:Int))=true:=by simp
 have hM:M<=9223372036854775807:=by have:=o5.2;omega
 have tM:Hid _:=hf;have nO:Hid _:=hp;have yQ:Hid _:=hr;clear uk o5 hf hp hl hr HF HN;go_wp2_with fail;refine(kx _ _).mono ?_;rintro e w4 ⟨rfl,Sz⟩;subst Sz;clear hd;have dD:=yQ.out.size;go_wp2_with fail;go_loopw [6,13] (λv i wr=>∃(k:Nat) (D:List aV) (m:List UInt8) (ao:Option Addr) (lo co:Nat),k<=M/\i=U O k/\v=J ao lo co/\Hid (AI (E,R)=dW (M-k) m D)/\Hid (D.length+m.length<=N)/\Hid (lL g m wr/\Rp g w wr)/\Hid (Own w.heap.size wr v D)/\w.heap.size<=wr.heap.size) (λ_ i _=>M-(intOf i).toNat)
 case atStart=>exact⟨0,[],r,be,0,0,IF _,rfl,rfl,tM,(show _<=_ by have:=nO.out.n;simp only[IX];omega),⟨nO.out.p,yQ.out⟩,cv _ _,dD⟩
 case round=>
  obtain⟨k,D,m,ao,lo,co,hk,rfl,rfl,xk,pM,HP,HO,cB⟩:=hrel;by_cases aX:k<M
  .have hd:decide ((k:Int)<(M:Int))=true:=by simp;omega
   have vH:Hid (AI (E,R)=(eT m).bind λa=>dW (M-(k+1)) a.2 (D++[a.1])):=(show _=_ by have:=xk.out;rw[show M-k=(M-(k+1))+1 by omega] at this;exact this);clear xk;go_wp2_with fail;refine(DI.out ⟨HP.out.1,HH.out.r.trans HP.out.2,by have:=pM.out;omega⟩ vH.out nofun).mono ?_;rintro e w5 ⟨x,q,v,rfl,rfl,hp,hf,hl,hr⟩;have DJ:Hid _:=hf;have DK:Hid ((D++[x]).length+q.length<=N):=(show _<=_ by have:=pM.out;rw[Ii,Og];omega);have xq:Hid (Own _ _ _ _):=hr.row HO.out dv;have qX:Hid (lL g q w5/\Rp g w w5):=⟨hp.p,HP.out.2.trans hr⟩;have jV:=Is cB hr.size;have Xl:D.length<=16777216:=by have:=pM.out;omega
   clear hp hf hl hr vH pM HP HO cB;unfold aV.val;go_wp2_with (at_builtin;refine IZ _ rfl _ _ 41 rfl w.heap.size 38 i0 _ 9 104 Tryz.underlying41 fH dt gJ gB rfl (by omega) _ D.length (fl D) rfl ?hown ⟨w5.heap.size,0,be⟩ 1 1 x.cs rfl rfl ?hnews (cX _) ?h63 ?hbytes ?hbase ?_)
   case hown=>(refine xq.out.below ?_;repeat(first|exact Ib _ _|refine below_drewN ?_ _|refine O3 ?_ (by simp) _|refine O8 ?_))
   case hnews=>(intro j u hj;rw[I5];exact(ae (Ij w5 (By #[Y x.node,Y x.bf,Y x.name,Y x.tag,U O x.addr,U O x.port,Ia x.af,U O x.version,Ia x.gone] 38)) (0+j)).trans (by simpa[aV.cs] using hj))
   case h63=>(unfold Io;omega)
   case hbytes=>omega
   case hbase=>(simp;omega)
   intro v' w6 r1 r2 r3;have Ar:Hid (Own _ _ _ _):=fe (by first|exact r1|(rw[Ii];exact r1));have yj:Hid _:=Rp.grown qX.out dv (((Ib w.heap.size w5).alloc jV (By #[Y x.node,Y x.bf,Y x.name,Y x.tag,U O x.addr,U O x.port,Ia x.af,U O x.version,Ia x.gone] 38)).trans ((Ib _ _).grown (w:=w5.alloc (By #[Y x.node,Y x.bf,Y x.name,Y x.tag,U O x.addr,U O x.port,Ia x.af,U O x.version,Ia x.gone] 38)) ⟨r2.os,r2.tape,r2.output,r2.size,r2.block⟩ (by simp;omega) (λj hj=>(xq.out.lt j hj).1)));have T1:=yj.out.2.size;obtain⟨a6,l6,c6,Nr⟩:∃a l c,v'=J a l c:=bC r1;subst Nr;clear r1 r2 r3 qX xq jV Xl;go_wp2_with fail;exact⟨⟨k+1,D++[x],q,a6,l6,c6,by omega,by go_num,rfl,DJ,DK,yj,Ar,T1⟩,by simp[intOf];omega⟩
  .have hd:decide ((k:Int)<(M:Int))=false:=by simp;omega
   have Ns:Hid (E=D/\R=m):=(show _/\_ by have:=xk.out;rw[show M-k=0 by omega] at this;cases this;exact⟨rfl,rfl⟩);clear xk pM;go_wp2_with fail;go_ret;exact⟨E,R,_,rfl,Ns.out.1▸HO.out.mono HH.out.r.size,HH.out.next (Ns.out.2▸HP.out.1) HP.out.2 HI.out,HE.out,HI.out,HP.out.2⟩
end Sv
namespace Gw
def dW:Nat->List UInt8->List bN->Option (List bN×List UInt8)
 |0,l,D=>AI (D,l)
 |n+1,l,D=>(eT l).bind λa=>dW n a.2 (D++[a.1])
def cy(l:List UInt8):Option (List bN×List UInt8):=(oD l).bind λa=>if 0<=a.1 then dW a.1.toNat a.2 [] else be
theorem iT:∀{n:Nat} {l r:List UInt8} {D E:List bN},dW n l D=AI (E,r)->l.length<=140737488355328->(∀m∈D,m.av.size<=Io)->(∀m∈E,m.av.size<=Io)/\r.length<=l.length
 |0,l,r,D,E,h,hl,hD=>by
  simp only[dW,Iu,IU] at h;obtain⟨rfl,rfl⟩:=h;exact⟨hD,Ie _⟩
 |n+1,l,r,D,E,h,hl,hD=>by
  obtain⟨⟨m,r'⟩,he,h⟩:=Iz.1 h;have hi:=iS he;have hx:=iT h (by simp only;omega) (λy hy=>by
   rcases Jk.1 hy with hy|hy
   .exact hD y hy
   .rw[IY.1 hy]
    unfold Io;simp only;omega)
  exact⟨hx.1,by have:=hx.2;simp only at this;omega⟩
theorem fg{l r:List UInt8}{E:List bN}(h:cy l=AI (E,r))(hl:l.length<=140737488355328):(∀m∈E,m.av.size<=Io)/\r.length<l.length:=by
 unfold cy at h;obtain⟨⟨n,r1⟩,h1,h2⟩:=Iz.1 h;have hi:=dG h1;split at h2
 .have hx:=iT h2 (by simp only;omega) (λm hm=>by cases hm)
  exact⟨hx.1,by have:=hx.2;simp only at this;omega⟩
 .cases h2
abbrev Nq(c g N:Nat)(W0:World):Prop:=LN 217 g N W0 #[If (AI ⟨g,0,be⟩),IQ (.func 218) #[] #[If (AI ⟨c,0,be⟩)]] cy (λD w' v=>Own W0.heap.size w' v D)
theorem qO{B g c N:Nat}{W0:World}(hV:Rv B W0)(iG:B<=g)(hN:N<=16777216)(hc:W0.cell? ⟨c,0,be⟩=AI (If (AI ⟨g,0,be⟩)))(zD:c≠g)(rA:c<W0.heap.size):Nq c g N W0:=λ{β F0 w l f} h vG aP=>by
 obtain⟨⟨E,R⟩,hn,hF⟩:=gU vG aP;have HE:Hid _:=hF;have HI:Hid _:=(fg hn (by have:=h.n;omega)).2;unfold cy at hn;have HF:Hid _:=hn.symm;obtain⟨i0,fH,dt,gJ,gB⟩:=I9 Tryz.oY;have ef:∀(args:Array Value) (W:World),(OC 218 args).run Tryz.prog W=.ok (.enter 218 args) W:=enters_of Tryz.func218 (by kernel_rfl) rfl;have HN:Hid (Vs g N W0):=vD hV iG (by omega);have DI:Hid (vE c g N W0):=vF hV iG (by omega) hc zD rA;have HH:Hid (St g N W0 l w):=h;have dv:=h.p.hg;clear hF vG aP hn h hV iG hc zD rA;go_enter Tryz.func217,Tryz.ntmps217;go_wp2_with fail;refine(HN.out HH.out HF.out nofun).mono ?_;rintro e w1 ⟨n,r,v,rfl,⟨rfl,o5⟩,hp,hf,hl,hr⟩;have hf:AI (E,R)=if 0<=n then dW n.toNat r [] else be:=hf;have uk:0<=n:=Oc λh0=>by rw[if_neg h0] at hf;cases hf
 rw[if_pos uk] at hf;obtain⟨M,rfl⟩:∃M:Nat,n=(M:Int):=⟨n.toNat,by omega⟩;have hd:decide ((0:Int)<=(M:Int))=true:=by simp
 have hM:M<=9223372036854775807:=by have:=o5.2;omega
 have tM:Hid _:=hf;have nO:Hid _:=hp;have yQ:Hid _:=hr;clear uk o5 hf hp hl hr HF HN;go_wp2_with fail;refine(kx _ _).mono ?_;rintro e w4 ⟨rfl,Sz⟩;subst Sz;clear hd;have dD:=yQ.out.size;go_wp2_with fail;go_loopw [6,13] (λv i wr=>∃(k:Nat) (D:List bN) (m:List UInt8) (ao:Option Addr) (lo co:Nat),k<=M/\i=U O k/\v=J ao lo co/\Hid (AI (E,R)=dW (M-k) m D)/\Hid (D.length+m.length<=N)/\Hid (lL g m wr/\Rp g w wr)/\Hid (Own w.heap.size wr v D)/\w.heap.size<=wr.heap.size) (λ_ i _=>M-(intOf i).toNat)
 case atStart=>exact⟨0,[],r,be,0,0,IF _,rfl,rfl,tM,(show _<=_ by have:=nO.out.n;simp only[IX];omega),⟨nO.out.p,yQ.out⟩,cv _ _,dD⟩
 case round=>
  obtain⟨k,D,m,ao,lo,co,hk,rfl,rfl,xk,pM,HP,HO,cB⟩:=hrel;by_cases aX:k<M
  .have hd:decide ((k:Int)<(M:Int))=true:=by simp;omega
   have vH:Hid (AI (E,R)=(eT m).bind λa=>dW (M-(k+1)) a.2 (D++[a.1])):=(show _=_ by have:=xk.out;rw[show M-k=(M-(k+1))+1 by omega] at this;exact this);clear xk;go_wp2_with fail;refine(DI.out ⟨HP.out.1,HH.out.r.trans HP.out.2,by have:=pM.out;omega⟩ vH.out nofun).mono ?_;rintro e w5 ⟨x,q,v,rfl,rfl,hp,hf,hl,hr⟩;have DJ:Hid _:=hf;have DK:Hid ((D++[x]).length+q.length<=N):=(show _<=_ by have:=pM.out;rw[Ii,Og];omega);have xq:Hid (Own _ _ _ _):=hr.row HO.out dv;have qX:Hid (lL g q w5/\Rp g w w5):=⟨hp.p,HP.out.2.trans hr⟩;have jV:=Is cB hr.size;have Xl:D.length<=16777216:=by have:=pM.out;omega
   clear hp hf hl hr vH pM HP HO cB;unfold bN.val;go_wp2_with (at_builtin;refine IZ _ rfl _ _ 47 rfl w.heap.size 102 i0 _ 3 32 Tryz.underlying47 fH dt gJ gB rfl (by omega) _ D.length (fl D) rfl ?hown ⟨w5.heap.size,0,be⟩ 1 1 x.cs rfl rfl ?hnews (cX _) ?h63 ?hbytes ?hbase ?_)
   case hown=>(refine xq.out.below ?_;repeat(first|exact Ib _ _|refine below_drewN ?_ _|refine O3 ?_ (by simp) _|refine O8 ?_))
   case hnews=>(intro j u hj;rw[I5];exact(ae (Ij w5 (By #[Y x.av,U O x.addr,U O x.version] 102)) (0+j)).trans (by simpa[bN.cs] using hj))
   case h63=>(unfold Io;omega)
   case hbytes=>omega
   case hbase=>(simp;omega)
   intro v' w6 r1 r2 r3;have Ar:Hid (Own _ _ _ _):=fe (by first|exact r1|(rw[Ii];exact r1));have yj:Hid _:=Rp.grown qX.out dv (((Ib w.heap.size w5).alloc jV (By #[Y x.av,U O x.addr,U O x.version] 102)).trans ((Ib _ _).grown (w:=w5.alloc (By #[Y x.av,U O x.addr,U O x.version] 102)) ⟨r2.os,r2.tape,r2.output,r2.size,r2.block⟩ (by simp;omega) (λj hj=>(xq.out.lt j hj).1)));have T1:=yj.out.2.size;obtain⟨a6,l6,c6,Nr⟩:∃a l c,v'=J a l c:=bC r1;subst Nr;clear r1 r2 r3 qX xq jV Xl;go_wp2_with fail;exact⟨⟨k+1,D++[x],q,a6,l6,c6,by omega,by go_num,rfl,DJ,DK,yj,Ar,T1⟩,by simp[intOf];omega⟩
  .have hd:decide ((k:Int)<(M:Int))=false:=by simp;omega
   have Ns:Hid (E=D/\R=m):=(show _/\_ by have:=xk.out;rw[show M-k=0 by omega] at this;cases this;exact⟨rfl,rfl⟩);clear xk pM;go_wp2_with fail;go_ret;exact⟨E,R,_,rfl,Ns.out.1▸HO.out.mono HH.out.r.size,HH.out.next (Ns.out.2▸HP.out.1) HP.out.2 HI.out,HE.out,HI.out,HP.out.2⟩
end Gw
namespace Wh
def dW:Nat->List UInt8->List bT->Option (List bT×List UInt8)
 |0,l,D=>AI (D,l)
 |n+1,l,D=>(eT l).bind λa=>dW n a.2 (D++[a.1])
def cy(l:List UInt8):Option (List bT×List UInt8):=(oD l).bind λa=>if 0<=a.1 then dW a.1.toNat a.2 [] else be
theorem iT:∀{n:Nat} {l r:List UInt8} {D E:List bT},dW n l D=AI (E,r)->l.length<=140737488355328->(∀m∈D,m.node.size<=Io)->(∀m∈E,m.node.size<=Io)/\r.length<=l.length
 |0,l,r,D,E,h,hl,hD=>by
  simp only[dW,Iu,IU] at h;obtain⟨rfl,rfl⟩:=h;exact⟨hD,Ie _⟩
 |n+1,l,r,D,E,h,hl,hD=>by
  obtain⟨⟨m,r'⟩,he,h⟩:=Iz.1 h;have hi:=iS he;have hx:=iT h (by simp only;omega) (λy hy=>by
   rcases Jk.1 hy with hy|hy
   .exact hD y hy
   .rw[IY.1 hy]
    unfold Io;simp only;omega)
  exact⟨hx.1,by have:=hx.2;simp only at this;omega⟩
theorem fg{l r:List UInt8}{E:List bT}(h:cy l=AI (E,r))(hl:l.length<=140737488355328):(∀m∈E,m.node.size<=Io)/\r.length<l.length:=by
 unfold cy at h;obtain⟨⟨n,r1⟩,h1,h2⟩:=Iz.1 h;have hi:=dG h1;split at h2
 .have hx:=iT h2 (by simp only;omega) (λm hm=>by cases hm)
  exact⟨hx.1,by have:=hx.2;simp only at this;omega⟩
 .cases h2
abbrev Nq(c g N:Nat)(W0:World):Prop:=LN 219 g N W0 #[If (AI ⟨g,0,be⟩),IQ (.func 220) #[] #[If (AI ⟨c,0,be⟩)]] cy (λD w' v=>Own W0.heap.size w' v D)
theorem qO{B g c N:Nat}{W0:World}(hV:Rv B W0)(iG:B<=g)(hN:N<=16777216)(hc:W0.cell? ⟨c,0,be⟩=AI (If (AI ⟨g,0,be⟩)))(zD:c≠g)(rA:c<W0.heap.size):Nq c g N W0:=λ{β F0 w l f} h vG aP=>by
 obtain⟨⟨E,R⟩,hn,hF⟩:=gU vG aP;have HE:Hid _:=hF;have HI:Hid _:=(fg hn (by have:=h.n;omega)).2;unfold cy at hn;have HF:Hid _:=hn.symm;obtain⟨i0,fH,dt,gJ,gB⟩:=I9 Tryz.oZ;have ef:∀(args:Array Value) (W:World),(OC 220 args).run Tryz.prog W=.ok (.enter 220 args) W:=enters_of Tryz.func220 (by kernel_rfl) rfl;have HN:Hid (Vs g N W0):=vD hV iG (by omega);have DI:Hid (vE c g N W0):=vF hV iG (by omega) hc zD rA;have HH:Hid (St g N W0 l w):=h;have dv:=h.p.hg;clear hF vG aP hn h hV iG hc zD rA;go_enter Tryz.func219,Tryz.ntmps219;go_wp2_with fail;refine(HN.out HH.out HF.out nofun).mono ?_;rintro e w1 ⟨n,r,v,rfl,⟨rfl,o5⟩,hp,hf,hl,hr⟩;have hf:AI (E,R)=if 0<=n then dW n.toNat r [] else be:=hf;have uk:=Oc λh0=>by rw[if_neg h0] at hf;cases hf
 rw[if_pos uk] at hf;obtain⟨M,rfl⟩:∃M:Nat,n=(M:Int):=⟨n.toNat,by omega⟩;have hd:decide ((0:Int)<=(M:Int))=true:=by simp
 have hM:M<=9223372036854775807:=by have:=o5.2;omega
 have tM:Hid _:=hf;have nO:Hid _:=hp;have yQ:Hid _:=hr;clear uk o5 hf hp hl hr HF HN;go_wp2_with fail;refine(kx _ _).mono ?_;rintro e w4 ⟨rfl,Sz⟩;subst Sz;clear hd;have dD:=yQ.out.size;go_wp2_with fail;go_loopw [6,13] (λv i wr=>∃(k:Nat) (D:List bT) (m:List UInt8) (ao:Option Addr) (lo co:Nat),k<=M/\i=U O k/\v=J ao lo co/\Hid (AI (E,R)=dW (M-k) m D)/\Hid (D.length+m.length<=N)/\Hid (lL g m wr/\Rp g w wr)/\Hid (Own w.heap.size wr v D)/\w.heap.size<=wr.heap.size) (λ_ i _=>M-(intOf i).toNat)
 case atStart=>exact⟨0,[],r,be,0,0,IF _,rfl,rfl,tM,(show _<=_ by have:=nO.out.n;simp only[IX];omega),⟨nO.out.p,yQ.out⟩,cv _ _,dD⟩
 case round=>
  obtain⟨k,D,m,ao,lo,co,hk,rfl,rfl,xk,pM,HP,HO,cB⟩:=hrel;by_cases aX:k<M
  .have hd:decide ((k:Int)<(M:Int))=true:=by simp;omega
   have vH:Hid (AI (E,R)=(eT m).bind λa=>dW (M-(k+1)) a.2 (D++[a.1])):=(show _=_ by have:=xk.out;rw[show M-k=(M-(k+1))+1 by omega] at this;exact this);clear xk;go_wp2_with fail;refine(DI.out ⟨HP.out.1,HH.out.r.trans HP.out.2,by have:=pM.out;omega⟩ vH.out nofun).mono ?_;rintro e w5 ⟨x,q,v,rfl,rfl,hp,hf,hl,hr⟩;have DJ:Hid _:=hf;have DK:Hid ((D++[x]).length+q.length<=N):=(show _<=_ by have:=pM.out;rw[Ii,Og];omega);have xq:Hid (Own _ _ _ _):=hr.row HO.out dv;have qX:Hid (lL g q w5/\Rp g w w5):=⟨hp.p,HP.out.2.trans hr⟩;have jV:=Is cB hr.size;have Xl:D.length<=16777216:=by have:=pM.out;omega
   clear hp hf hl hr vH pM HP HO cB;unfold bT.val;go_wp2_with (at_builtin;refine IZ _ rfl _ _ 48 rfl w.heap.size 116 i0 _ 6 56 Tryz.underlying48 fH dt gJ gB rfl (by omega) _ D.length (fl D) rfl ?hown ⟨w5.heap.size,0,be⟩ 1 1 x.cs rfl rfl ?hnews (cX _) ?h63 ?hbytes ?hbase ?_)
   case hown=>(refine xq.out.below ?_;repeat(first|exact Ib _ _|refine below_drewN ?_ _|refine O3 ?_ (by simp) _|refine O8 ?_))
   case hnews=>(intro j u hj;rw[I5];exact(ae (Ij w5 (By #[Y x.node,U O x.x,U O x.y,U O x.z,U O x.h,U O x.s] 116)) (0+j)).trans (by simpa[bT.cs] using hj))
   case h63=>(unfold Io;omega)
   case hbytes=>omega
   case hbase=>(simp;omega)
   intro v' w6 r1 r2 r3;have Ar:Hid (Own _ _ _ _):=fe (by first|exact r1|(rw[Ii];exact r1));have yj:Hid _:=Rp.grown qX.out dv (((Ib w.heap.size w5).alloc jV (By #[Y x.node,U O x.x,U O x.y,U O x.z,U O x.h,U O x.s] 116)).trans ((Ib _ _).grown (w:=w5.alloc (By #[Y x.node,U O x.x,U O x.y,U O x.z,U O x.h,U O x.s] 116)) ⟨r2.os,r2.tape,r2.output,r2.size,r2.block⟩ (by simp;omega) (λj hj=>(xq.out.lt j hj).1)));have T1:=yj.out.2.size;obtain⟨a6,l6,c6,Nr⟩:∃a l c,v'=J a l c:=bC r1;subst Nr;clear r1 r2 r3 qX xq jV Xl;go_wp2_with fail;exact⟨⟨k+1,D++[x],q,a6,l6,c6,by omega,by go_num,rfl,DJ,DK,yj,Ar,T1⟩,by simp[intOf];omega⟩
  .have hd:decide ((k:Int)<(M:Int))=false:=by simp;omega
   have Ns:Hid (E=D/\R=m):=(show _/\_ by have:=xk.out;rw[show M-k=0 by omega] at this;cases this;exact⟨rfl,rfl⟩);clear xk pM;go_wp2_with fail;go_ret;exact⟨E,R,_,rfl,Ns.out.1▸HO.out.mono HH.out.r.size,HH.out.next (Ns.out.2▸HP.out.1) HP.out.2 HI.out,HE.out,HI.out,HP.out.2⟩
end Wh
def xt(l:List UInt8):Option (Pk×List UInt8):=
 (Bw l).bind λa0=>(Ht a0.2).bind λa1=>(cy a1.2).bind λa2=>(Sv.cy a2.2).bind λa3=>(Gw.cy a3.2).bind λa4=>(Wh.cy a4.2).bind λa5=>AI (⟨a0.1,a1.1,a2.1,a3.1,a4.1,a5.1⟩,a5.2)
structure iB(base:Nat)(w:World)(p:Pk)(vm vs vg vw:Value):Prop where
 ms:Own base w vm p.ms
 sv:Sv.Own base w vs p.sv
 gw:Gw.Own base w vg p.gw
 wh:Wh.Own base w vw p.wh
theorem eO{base:Nat}{w w':World}{T:TypeId}{k n:Nat}{v:Value}{cs:List Value}(h:∀b,base<=b->b<w.heap.size->w'.heap[b]?=w.heap[b]?)(ho:w.ownsRow base T k v n cs):w'.ownsRow base T k v n cs:=by
 rcases ho.2 with⟨rfl,h0⟩|⟨b,c,cur,rfl,eX,hb,hr⟩
 .exact⟨ho.1,.inl ⟨rfl,h0⟩⟩
 .exact⟨ho.1,.inr ⟨b,c,cur,rfl,eX,(h b eX (Array.getElem?_eq_some_iff.1 hb).1).trans hb,hr⟩⟩
theorem iB.fN{base:Nat}{w w':World}{p:Pk}{vm vs vg vw:Value}(h:iB base w p vm vs vg vw)(hk:∀b,base<=b->b<w.heap.size->w'.heap[b]?=w.heap[b]?):iB base w' p vm vs vg vw:=⟨eO hk h.ms,eO hk h.sv,eO hk h.gw,eO hk h.wh⟩
theorem Nu{B g:Nat}{l R:List UInt8}{p:Pk}{w:World}(hV:Rv B w)(iG:B<=g)(h:lL g l w)(hs:l.length<=16777216)(hn:xt l=AI (p,R)) :
 aK 181 #[If (AI ⟨g,0,be⟩)] w λe w'=>∃vm vs vg vw,e=.returned (.agg #[Y p.du,Ia p.whole,vm,vs,vg,vw])/\Rp g w w'/\iB (w.heap.size+2) w' p vm vs vg vw/\lL g R w':=by
 unfold xt at hn;have FA:Hid _:=hn.symm;have hmf:∀(fn:Fn) (first cap:Array Value) (w:World),(Instr.makeFunc fn first cap).run Tryz.prog w=.ok (IQ fn first cap) w:=λ_ _ _ _=>rfl;obtain⟨W1,db,hb,fj,V6,dX⟩:=Nj w #[If (AI ⟨g,0,be⟩)] #[Y ⟨#[]⟩,Ia false,J be 0 0,J be 0 0,J be 0 0,J be 0 0] 242 61;have tV:=hV.below (hb.mono hV.le);have dv:=h.hg;have LF:w.heap.size≠g:=by omega
 have HW:Hid (Rp g w W1):=Rp.cG hb (Ie _);have tW:Hid _:=fj;have sR:Hid (St g 16777216 W1 l W1.drew):=⟨(h.below hb).drew,(Rp.refl _ _).drew,hs⟩;have jW:Hid (∀W,Rp g W1 W->W.cell? ⟨w.heap.size,0,be⟩=AI (If (AI ⟨g,0,be⟩))):=λW hW=>ae (hW.lW LF V6) 0;have jF:Hid (∀W,Rp g W1 W->W.heap[w.heap.size+1]?=AI (By #[Y ⟨#[]⟩,Ia false,J be 0 0,J be 0 0,J be 0 0,J be 0 0] 61 (0,0))):=λW hW=>hW.lW (by omega) dX;have LO:Hid (TxS g 16777216 W1):=vC tV iG (by omega);have HFX:Hid (FlS g 16777216 W1):=DH tV iG (by omega);have hc:=jW.out _ (Rp.refl _ _);have HMX:Hid (Nq _ _ _ _):=qO tV iG (Ie _) hc LF (by omega);have Vp:Hid (Sv.Nq _ _ _ _):=Sv.qO tV iG (Ie _) hc LF (by omega);have HGX:Hid (Gw.Nq _ _ _ _):=Gw.qO tV iG (Ie _) hc LF (by omega);have HWX:Hid (Wh.Nq _ _ _ _):=Wh.qO tV iG (Ie _) hc LF (by omega);clear hn h hV hb dX V6 tV iG hs fj hc;go_enter Tryz.func181,Tryz.ntmps181;go_wp2_with fail;rw[<- db];clear db;refine wp_region_held_drew (S:=λW=>W.cell? ⟨w.heap.size,0,be⟩=AI (If (AI ⟨g,0,be⟩))) (by kernel_rfl) (jW.out _ sR.out.r) (λcf=>?_);refine cC 0 ?_;refine cC 2 ?_;refine cC 4 ?_;refine cC 7 ?_;refine cC 10 ?_;refine cC 13 ?_;refine cC 5 ?_;refine cC 8 ?_;refine cC 11 ?_;refine cC 14 ?_;refine cH 1 (λK hK=>?_);go_simp;refine(LO.out sR.out FA.out nofun).mono ?_;rintro e w1 ⟨x0,r1,v,rfl,rfl,hp,hf,-,-⟩;have nO:Hid _:=hp;have Cu:Hid _:=hf;clear hp hf sR FA;refine hK.out _ _ (jW.out _ nO.out.r) (λcf=>?_);clear hK K;refine cH 3 (λK hK=>?_);go_simp;refine(HFX.out nO.out Cu.out nofun).mono ?_;rintro e w2 ⟨x1,r2,v,rfl,rfl,hp,hf,-,-⟩;have qM:Hid _:=hp;have wJ:Hid _:=hf;clear hp hf nO Cu;refine hK.out _ _ (jW.out _ qM.out.r) (λcf=>?_);clear hK K;refine cH 6 (λK hK=>?_);go_simp;refine(HMX.out qM.out wJ.out nofun).mono ?_;rintro e w3 ⟨x2,r3,v,rfl,ho,hp,hf,-,hr⟩;obtain⟨a2,l2,c2,rfl⟩:=bC ho;have ja:Hid (Own _ _ _ _):=ho;have tQ:Hid _:=hr;clear ho hr;have vz:Hid _:=hp;have tM:Hid _:=hf;clear hp hf qM wJ;refine hK.out _ _ (jW.out _ vz.out.r) (λcf=>?_);clear hK K;refine cH 9 (λK hK=>?_);go_simp;refine(Vp.out vz.out tM.out nofun).mono ?_;rintro e w4 ⟨x3,r4,v,rfl,ho,hp,hf,-,hr⟩;obtain⟨a3,l3,c3,rfl⟩:=bC ho;have eG:Hid (Sv.Own _ _ _ _):=ho;have HR3:Hid _:=hr;clear ho hr;have DF:Hid _:=hp;have Vt:Hid _:=hf;clear hp hf vz tM;refine hK.out _ _ (jW.out _ DF.out.r) (λcf=>?_);clear hK K;refine cH 12 (λK hK=>?_);go_simp;refine(HGX.out DF.out Vt.out nofun).mono ?_;rintro e w5 ⟨x4,r5,v,rfl,ho,hp,hf,-,hr⟩;obtain⟨a4,l4,c4,rfl⟩:=bC ho;have pB:Hid (Gw.Own _ _ _ _):=ho;have HR4:Hid _:=hr;clear ho hr;have qX:Hid _:=hp;have Xk:Hid _:=hf;clear hp hf DF Vt;refine hK.out _ _ (jW.out _ qX.out.r) (λcf=>?_);clear hK K;refine cH 15 (λK hK=>?_);go_simp;refine(HWX.out qX.out Xk.out nofun).mono ?_;rintro e w6 ⟨x5,r6,v,rfl,ho,hp,hf,-,hr⟩;obtain⟨a5,l5,c5,rfl⟩:=bC ho;have xq:Hid (Wh.Own _ _ _ _):=ho;have HR5:Hid _:=hr;clear ho hr;have yj:Hid _:=hp;have HF6:Hid _:=hf;clear hp hf qX Xk;refine hK.out _ _ (jW.out _ yj.out.r) (λcf=>?_);clear hK K;refine cC 16 ?_;have e:=jF.out _ yj.out.r;obtain⟨b0,b1,b2,b3,b4,b5⟩:=ky e;have z:=nA e;refine cH 17 (λK hK=>?_);go_simp;obtain⟨wf,pF⟩:∃wf,wf=aF (w.heap.size+1) [Y x0,Ia x1,J a2 l2 c2,J a3 l3 c3,J a4 l4 c4,J a5 l5 c5] 0 w6:=⟨_,rfl⟩;obtain⟨f0,f1,f2,f3,f4,f5⟩:=ky (show wf.heap[w.heap.size+1]?=AI (By #[Y x0,Ia x1,J a2 l2 c2,J a3 l3 c3,J a4 l4 c4,J a5 l5 c5] _ _) by rw[pF];exact rU e _ _ _ _ _ _);have HX:Hid _:=St.set HW.out yj.out (by omega) (by omega) (Nat.le_succ _) (jW.out _ yj.out.r) pF;have HO:Hid (iB (w.heap.size+2) wf ⟨x0,x1,x2,x3,x4,x5⟩ (J a2 l2 c2) (J a3 l3 c3) (J a4 l4 c4) (J a5 l5 c5)):=by
  have hg:g<W1.heap.size:=by have:=tW.out;omega
  have h5:=HR5.out;have h4:=HR4.out.trans h5;have h3:=HR3.out.trans h4;have hh:iB W1.heap.size w6 ⟨x0,x1,x2,x3,x4,x5⟩ (J a2 l2 c2) (J a3 l3 c3) (J a4 l4 c4) (J a5 l5 c5):=⟨h3.row ja.out hg,h4.row eG.out hg,h5.row pB.out hg,xq.out⟩;rw[tW.out] at hh;exact hh.fN (λb hb _=>by rw[pF];exact bc (by omega) _ _ _)
 simp only[aF,Nat.zero_add,Nat.reduceAdd] at pF;rw[<- pF];clear pF e z b0 b1 b2 b3 b4 b5 jW jF;have Sy:=HX.out.2.2;refine hK.out _ _ Sy (λcf=>?_);clear hK K;refine wpAnyH_done (by kernel_rfl) ?_ _;clear cf;have hx:=HF6.out;simp only[Iu,IU] at hx;obtain⟨rfl,rfl⟩:=hx;have iO:Hid (∃vm vs vg vw,Ending.returned (.agg #[Y x0,Ia x1,J a2 l2 c2,J a3 l3 c3,J a4 l4 c4,J a5 l5 c5])=.returned (.agg #[Y x0,Ia x1,vm,vs,vg,vw])/\Rp g w wf/\iB (w.heap.size+2) wf ⟨x0,x1,x2,x3,x4,x5⟩ vm vs vg vw/\lL g R wf):=⟨_,_,_,_,rfl,HX.out.2.1,HO.out,HX.out.1⟩;go_wp2_with fail;exact bodyPost_ret (v:=.agg #[Y x0,Ia x1,J a2 l2 c2,J a3 l3 c3,J a4 l4 c4,J a5 l5 c5]) (by simp[results,Tryz.results181,go_sem,f0,f1,f2,f3,f4,f5]) rfl iO.out
end Go.Proofs.YtbfghimjdlpicaaGreatDoor
