import Derived.Test.YtfidjlcdlakceaaGreatDoortf21
set_option maxHeartbeats 12800000
set_option maxRecDepth 100000
open Go.Value renaming agg→Im,string→I,int→O,slice→U
open Go.IntKind renaming i64→J
open Option renaming some→Z,none→Y
open Nat renaming le_refl→By
open Go renaming maxLen→Ij,heap_alloc_new→Ie
open Go.Obj renaming cells→AT
open Go.RowKit.Below renaming refl→Ib,heap_alloc→It
namespace Go.Proofs.YtfidjlcdlakceaaGreatDoor
namespace Sv
open Go.RowKit
def s0:aI:=⟨⟨#[110]⟩,⟨#[105]⟩,⟨#[115]⟩,⟨#[]⟩,0,0,true,0,false⟩
def s1:aI:=⟨⟨#[110]⟩,⟨#[105]⟩,⟨#[115]⟩,⟨#[]⟩,0,0,true,1,false⟩
theorem aaJ(t:aI):At [] t 0 false:=⟨by simp,λj h=>by omega,λj h h2=>by simp at h2,by simp⟩
end Sv
namespace Sv
open Go.RowKit
end Sv
namespace Sv
open Go.RowKit
end Sv
namespace Sv
open Go.RowKit
end Sv
namespace Sv
open Go.RowKit
end Sv
end Go.Proofs.YtfidjlcdlakceaaGreatDoor
namespace Go.Proofs.YtfidjlcdlakceaaGreatDoor
open Go.RowKit
theorem rcI:(Tryz.prog.info? 64).map (λi=>(i.zero,i.size,i.bytes))=Z (Z (Im #[I ⟨#[]⟩,O J 0,O J 0,O J 0,I ⟨#[]⟩,O J 0,I ⟨#[]⟩]),7,80):=by kernel_rfl
theorem Ph{L:List Sv.aI}{f:Sv.aI->Rc.Rec}{k:Nat}(h:k<L.length):(L.take (k+1)).map f=(L.take k).map f++[f (L.getD k Sv.dm)]:=by
 rw[tR h];simp
theorem A4{q:Qu}{tag:ByteArray}(h:fo q=0)(hn:q.node.size=0)(ht:tag=q.tag\/tag=⟨#[]⟩):Sv.EX q.service tag=0:=by
 obtain⟨z0,z1,z2,_,_,_⟩:=kE h;have hs:q.service.size≠0:=λe=>by unfold yS at z0;simp[e,hn] at z0
 have hl:aN q.service=true:=by
  have h1:(decide (q.service=ByteArray.empty)||aN q.service)=true:=z1;have h2:decide (q.service=ByteArray.empty)=false:=by simpa using λe=>hs (by rw[e];rfl)
  rw[h2] at h1;simpa using h1
 have htg:Sv.tJ tag=true:=by
  rcases ht with rfl|rfl
  .exact z2
  .rfl
 unfold Sv.EX;rw[hl,htg];rfl
theorem A5{B:Nat}{w:World}{v:Value}{ms:List Sv.aI}(h:Sv.Own B w v ms):∃p c,v=U p ms.length c:=by
 rcases h.2 with⟨hv,h0⟩|⟨g,c,cur,hv,_⟩
 .exact⟨Y,0,by rw[hv,h0]⟩
 .exact⟨_,c,hv⟩
structure uu(here:ByteArray)(sv:List Sv.aI)(ms:List Mem)(p:Pl)(wh:List Wh.bC):Prop where
 lab:aN here=true
 sv:Sv.ba sv=0
 ms:ba ms=0
 pl:Au p wh=0
theorem aaK{here:ByteArray}{sv:List Sv.aI}{ms:List Mem}{p:Pl}{wh:List Wh.bC}(h:sR here sv ms p wh=0):uu here sv ms p wh:=by
 unfold sR at h;by_cases h1:aN here=true
 .rw[if_pos h1] at h
  by_cases h2:Sv.ba sv=0
  .rw[if_pos h2] at h
   by_cases h3:ba ms=0
   .rw[if_pos h3] at h
    exact⟨h1,h2,h3,h⟩
   .rw[if_neg h3] at h;exact absurd h h3
  .rw[if_neg h2] at h;exact absurd h h2
 .rw[if_neg h1] at h;omega
theorem uu.sort{here:ByteArray}{sv:List Sv.aI}{ms:List Mem}{p:Pl}{wh:List Wh.bC}(h:uu here sv ms p wh){ns:List ByteArray}(hn:ns.length<=100):pF p wh ns=0/\pG p wh ns=GH p wh ns:=by
 have h1:=h.pl;unfold Au at h1;by_cases hm:20<wh.length
 .rw[if_pos hm] at h1;omega
 .rw[if_neg hm] at h1
  have e:pF p wh ns=0:=by unfold pF;rw[if_neg (by omega)];exact h1
  exact⟨e,by unfold pG;rw[if_pos e]⟩
theorem T6(p:Pl)(wh:List Wh.bC)(ns:List ByteArray):(GH p wh ns).length=ns.length:=by
 unfold GH;have:=So.C9 (yB (dV (Dd (iO p) wh wh.length))) ns (GG _) ns.length (By _)
 rwa [List.take_length] at this
theorem T7{s:ByteArray}(h:aN s=true):s.size<=Ij:=by
 unfold aN at h;simp at h;unfold Ij;omega
theorem Pj(here:ByteArray)(ps pm pw:Option Addr)(ns cs nm cm nw cw:Nat)(px py pz ph pq:Int)(sv:List Sv.aI)(ms:List Mem)(wh:List Wh.bC)(found:List Sv.aI)(vf:Value)(w:World)(hk:uu here sv ms ⟨px,py,pz,ph,pq⟩ wh)(hm:Sl w (U pm nm cm) ms)(hw:Wh.Sl w (U pw nw cw) wh)(hf:Sv.Sl w vf found)(oi:found.length<=40) :
 Calls Tryz.prog 194 #[Im (eQ here (U ps ns cs) (U pm nm cm) px py pz ph pq (U pw nw cw)),vf] w λe w'=>∃v',e=.returned v'/\Sv.Sl w' v' (ib ⟨px,py,pz,ph,pq⟩ wh ms found)/\Below w.heap.size w w':=by
 have hl:=qC ms found;have fG:=tP (bQ ms found);have hn:nm<=1000:=by
  obtain⟨_,_,he,_,_⟩:=id hm;simp only[Value.slice.injEq] at he;have:=(aF hk.ms).1;omega
 obtain⟨hE,hL⟩:=hk.sort (ns:=bP (bQ ms found)) (by omega);refine Ay here ps pm pw ns cs nm cm nw cw px py pz ph pq ms found wh (GH ⟨px,py,pz,ph,pq⟩ wh (bP (bQ ms found))) vf w hm hf hw hn oi (λvn W h1 h2=>?_) (λx hx=>Tx.1 hx) (by rw[T6];omega);refine(Pa ⟨px,py,pz,ph,pq⟩ wh (U pw nw cw) vn _ W h1 h2).mono ?_;rintro e w' ⟨v',rfl,h3,_,h4⟩;rw[hL] at h3;exact⟨v',_,rfl,h3,h4⟩
theorem wM(here:ByteArray)(ps pm pw:Option Addr)(ns cs nm cm nw cw:Nat)(px py pz ph pq:Int)(q:Qu)(name:ByteArray)(t:Int)(sv:List Sv.aI)(ms:List Mem)(wh:List Wh.bC)(w:World)(hq:q.ok)(h0:fo q=0)(X6:q.node.size=0)(hk:uu here sv ms ⟨px,py,pz,ph,pq⟩ wh)(hs:Sv.Sl w (U ps ns cs) sv)(hm:Sl w (U pm nm cm) ms)(hw:Wh.Sl w (U pw nw cw) wh)(A7:name=iy q) :
 Calls Tryz.prog 139 #[Im (eQ here (U ps ns cs) (U pm nm cm) px py pz ph pq (U pw nw cw)),Im #[I q.service,I q.tag,I q.node,I q.ai],Im #[I name,O J t,O J 0,O J 0,I ⟨#[]⟩,O J 0,I ⟨#[]⟩]] w λe w'=>∃v,e=.returned (.tuple #[v,O J (ky q t here sv ms ⟨px,py,pz,ph,pq⟩ wh).code,O J (ky q t here sv ms ⟨px,py,pz,ph,pq⟩ wh).e])/\Rc.Own w.heap.size w' v (ky q t here sv ms ⟨px,py,pz,ph,pq⟩ wh).rs/\Below w.heap.size w w':=by
 obtain⟨i0,ei,bW,fs,eU⟩:=info_parts rcI;have hF1:=λ(W:World) (h:Sv.Sl W (U ps ns cs) sv)=>Sv.tK sv (U ps ns cs) q.service ⟨#[]⟩ W h hk.sv hq.1 (by decide) (A4 h0 X6 (.inr rfl));have hF2:=λ(W:World) (h:Sv.Sl W (U ps ns cs) sv)=>Sv.tK sv (U ps ns cs) q.service q.tag W h hk.sv hq.1 hq.2.1 (A4 h0 X6 (.inl rfl));have zH:Hid _:=hF1;have wJ:Hid _:=hF2;have oi:(Sv.bV sv q.service q.tag).length<=40:=by have h1:=Sv.xh sv q.service q.tag;have h2:=(Sv.aF hk.sv).1;omega
 have HFO:Hid (∀x∈Sv.bV sv q.service q.tag,x.ok):=Sv.MX (by obtain⟨_,_,_,h,_⟩:=hs;exact Sv.cZ h);have Mg:Hid (∀W vf,Sl W (U pm nm cm) ms->Wh.Sl W (U pw nw cw) wh->Sv.Sl W vf (Sv.bV sv q.service q.tag)->Calls Tryz.prog 194 #[Im (eQ here (U ps ns cs) (U pm nm cm) px py pz ph pq (U pw nw cw)),vf] W λe w'=>∃v',e=.returned v'/\Sv.Sl w' v' (ib ⟨px,py,pz,ph,pq⟩ wh ms (Sv.bV sv q.service q.tag))/\Below W.heap.size W w'):=λW vf h1 h2 h3=>Pj here ps pm pw ns cs nm cm nw cw px py pz ph pq sv ms wh _ vf W hk h1 h2 h3 oi;have Fx:Hid (Sv.bV sv q.service ⟨#[]⟩=[]->ky q t here sv ms ⟨px,py,pz,ph,pq⟩ wh=⟨[],3,0⟩):=λh=>by unfold ky;rw[if_pos h]
 have yT:Hid (Sv.bV sv q.service ⟨#[]⟩≠[]->ie here t (ib ⟨px,py,pz,ph,pq⟩ wh ms (Sv.bV sv q.service q.tag))=0->ky q t here sv ms ⟨px,py,pz,ph,pq⟩ wh=⟨(ib ⟨px,py,pz,ph,pq⟩ wh ms (Sv.bV sv q.service q.tag)).map (jj name here t),0,0⟩):=λh h2=>by unfold ky;rw[if_neg h,if_pos h2,A7]
 have yU:Hid (Sv.bV sv q.service ⟨#[]⟩≠[]->ie here t (ib ⟨px,py,pz,ph,pq⟩ wh ms (Sv.bV sv q.service q.tag))≠0->ky q t here sv ms ⟨px,py,pz,ph,pq⟩ wh=⟨[],0,ie here t (ib ⟨px,py,pz,ph,pq⟩ wh ms (Sv.bV sv q.service q.tag))⟩):=λh h2=>by unfold ky;rw[if_neg h,if_neg h2]
 have L5:=Av ⟨px,py,pz,ph,pq⟩ wh ms (Sv.bV sv q.service q.tag);have aaw:Hid (∀(s:Sv.aI) (W:World),s.node.size<=Ij->Calls Tryz.prog 195 #[Im (eQ here (U ps ns cs) (U pm nm cm) px py pz ph pq (U pw nw cw)),Im #[I name,O J t,O J 0,O J 0,I ⟨#[]⟩,O J 0,I ⟨#[]⟩],Im #[I s.node,I s.bF,I s.name,I s.tag,O J s.addr,O J s.port,.bool s.au,O J s.version,.bool s.gone]] W λe w'=>∃r:Rc.Rec,e=.returned (.tuple #[Im #[I r.name,O J r.an,O J r.aK,O J r.addr,I r.text,O J r.port,I r.target],O J (ic here t s)])/\(ic here t s=0->r=jj name here t s)/\Below W.heap.size W w'):=λs W h=>AX here ps pm pw ns cs nm cm nw cw px py pz ph pq name t s W (T7 hk.lab) h;have HS:Hid (Sv.Sl w (U ps ns cs) sv):=hs;have HM:Hid (Sl w (U pm nm cm) ms):=hm;have HW:Hid (Wh.Sl w (U pw nw cw) wh):=hw;clear hF1 hF2 hs hm hw hk X6 h0 A7;generalize ky q t here sv ms ⟨px,py,pz,ph,pq⟩ wh=A at *;generalize ib ⟨px,py,pz,ph,pq⟩ wh ms (Sv.bV sv q.service q.tag)=NL at *;generalize Sv.bV sv q.service q.tag=FL at *;generalize Sv.bV sv q.service ⟨#[]⟩=F0 at *;obtain⟨qs,qt,qn,qc⟩:=q;simp only at *;go_enter Tryz.func139,Tryz.ntmps139;go_wp2_with fail;obtain⟨W,hW⟩:∃W,W=((w.alloc (AT (eQ here (U ps ns cs) (U pm nm cm) px py pz ph pq (U pw nw cw)) 137)).alloc (AT #[I qs,I qt,I qn,I qc] 32)).alloc (AT #[I name,O J t,O J 0,O J 0,I ⟨#[]⟩,O J 0,I ⟨#[]⟩] 64):=⟨_,rfl⟩;rw[<- hW];have ez:Below w.heap.size w W:=by rw[hW];exact(((Ib _ _).alloc (By _) _).alloc (by simp) _).alloc (by simp<;>omega) _
 have wB:Hid (W.heap[w.heap.size]?=Z (AT (eQ here (U ps ns cs) (U pm nm cm) px py pz ph pq (U pw nw cw)) 137 (0,0))):=by
  rw[hW,It _ _ _ (by simp<;>omega),It _ _ _ (by simp)];exact Ie w _
 have kT:W.heap[w.heap.size+1]?=Z (AT #[I qs,I qt,I qn,I qc] 32 (0,0)):=by
  rw[hW,It _ _ _ (by simp)];have h:=Ie (w.alloc (AT (eQ here (U ps ns cs) (U pm nm cm) px py pz ph pq (U pw nw cw)) 137)) (AT #[I qs,I qt,I qn,I qc] 32);simpa using h
 have vG:W.heap[w.heap.size+2]?=Z (AT #[I name,O J t,O J 0,O J 0,I ⟨#[]⟩,O J 0,I ⟨#[]⟩] 64 (0,0)):=by
  rw[hW];have h:=Ie ((w.alloc (AT (eQ here (U ps ns cs) (U pm nm cm) px py pz ph pq (U pw nw cw)) 137)).alloc (AT #[I qs,I qt,I qn,I qc] 32)) (AT #[I name,O J t,O J 0,O J 0,I ⟨#[]⟩,O J 0,I ⟨#[]⟩] 64);simpa using h
 have jo:Hid _:=kT;have oq:Hid _:=vG;clear kT vG;have oX:w.heap.size+3<=W.heap.size:=by rw[hW];simp
 clear hW;refine Calls.mono (zH.out W (HS.out.below ez)) ?_;rintro e w1 ⟨v1,rfl,wY,al⟩;obtain⟨p1,c1,rfl⟩:=A5 wY;have aR:Hid (Below w.heap.size w w1):=ez.trans (al.mono (by omega));have sC:Hid (Below W.heap.size W w1):=al;have gI:=al.size;clear wY al;by_cases he:F0=[]
 .have HR:Hid (A=⟨[],3,0⟩):=Fx.out he
  have h00:F0.length=0:=by rw[he];rfl
  clear he Fx yT yU;generalize F0.length=n0 at *;subst h00;go_wp2_with fail;go_ret3
  exact⟨U Y 0 0,by rw[HR.out];rfl,by rw[HR.out];exact Rc.bj _ _,aR.out⟩
 .have h00:(((F0.length:Nat):Int)==0)=false:=by
   have:F0.length≠0:=λh=>he (List.eq_nil_of_length_eq_zero h)
   simpa using this
  have sD:Hid _:=yT.out he;have A8:Hid _:=yU.out he;clear Fx yT yU he;generalize F0.length=n0 at *;have k0:w1.heap[w.heap.size]?=Z (AT (eQ here (U ps ns cs) (U pm nm cm) px py pz ph pq (U pw nw cw)) 137 (0,0)):=(sC.out.block _ (by omega)).trans wB.out;have k1:w1.heap[w.heap.size+1]?=Z (AT #[I qs,I qt,I qn,I qc] 32 (0,0)):=(sC.out.block _ (by omega)).trans jo.out;have d0:w1.cell? ⟨w.heap.size,0,Y⟩=Z (I here):=af k0 0;have d1:w1.cell? ⟨w.heap.size,1,Y⟩=Z (U ps ns cs):=af k0 1;have d2:w1.cell? ⟨w.heap.size,2,Y⟩=Z (U pm nm cm):=af k0 2;have d3:w1.cell? ⟨w.heap.size,3,Y⟩=Z (O J px):=af k0 3;have d4:w1.cell? ⟨w.heap.size,4,Y⟩=Z (O J py):=af k0 4;have d5:w1.cell? ⟨w.heap.size,5,Y⟩=Z (O J pz):=af k0 5;have d6:w1.cell? ⟨w.heap.size,6,Y⟩=Z (O J ph):=af k0 6;have d7:w1.cell? ⟨w.heap.size,7,Y⟩=Z (O J pq):=af k0 7;have d8:w1.cell? ⟨w.heap.size,8,Y⟩=Z (U pw nw cw):=af k0 8;have q0:w1.cell? ⟨w.heap.size+1,0,Y⟩=Z (I qs):=af k1 0;have q1:w1.cell? ⟨w.heap.size+1,1,Y⟩=Z (I qt):=af k1 1;have q2:w1.cell? ⟨w.heap.size+1,2,Y⟩=Z (I qn):=af k1 2;have q3:w1.cell? ⟨w.heap.size+1,3,Y⟩=Z (I qc):=af k1 3;clear k0 k1;go_wp2_with fail;refine Calls.mono (wJ.out w1 (HS.out.below aR.out)) ?_;rintro e w2 ⟨v2,rfl,ly,aC⟩;have iZ:=aC.size;have HX2:Hid (Below W.heap.size W w2):=sC.out.trans (aC.mono gI);have bw:Hid (Below w.heap.size w w2):=aR.out.trans (aC.mono (by omega));have HSF:Hid (Sv.Sl w2 v2 FL):=Sv.gd ly HFO.out;clear d0 d1 d2 d3 d4 d5 d6 d7 d8 q0 q1 q2 q3 ly aC;have k0:w2.heap[w.heap.size]?=Z (AT (eQ here (U ps ns cs) (U pm nm cm) px py pz ph pq (U pw nw cw)) 137 (0,0)):=(HX2.out.block _ (by omega)).trans wB.out;have d0:w2.cell? ⟨w.heap.size,0,Y⟩=Z (I here):=af k0 0;have d1:w2.cell? ⟨w.heap.size,1,Y⟩=Z (U ps ns cs):=af k0 1;have d2:w2.cell? ⟨w.heap.size,2,Y⟩=Z (U pm nm cm):=af k0 2;have d3:w2.cell? ⟨w.heap.size,3,Y⟩=Z (O J px):=af k0 3;have d4:w2.cell? ⟨w.heap.size,4,Y⟩=Z (O J py):=af k0 4;have d5:w2.cell? ⟨w.heap.size,5,Y⟩=Z (O J pz):=af k0 5;have d6:w2.cell? ⟨w.heap.size,6,Y⟩=Z (O J ph):=af k0 6;have d7:w2.cell? ⟨w.heap.size,7,Y⟩=Z (O J pq):=af k0 7;have d8:w2.cell? ⟨w.heap.size,8,Y⟩=Z (U pw nw cw):=af k0 8;clear k0;go_wp2_with fail;refine Calls.mono (Mg.out w2 v2 (HM.out.below bw.out) (HW.out.below bw.out) HSF.out) ?_;rintro e X ⟨v3,rfl,L9,bf⟩;have Np:=bf.size;have HX3:Hid (Below W.heap.size W X):=HX2.out.trans (bf.mono (by omega));have da:Hid (Below w.heap.size w X):=bw.out.trans (bf.mono (by omega));clear d0 d1 d2 d3 d4 d5 d6 d7 d8 bf;obtain⟨pn,cn,rfl,Mb,yo⟩:=L9;have HNA:Hid (NL=[]\/∃b off,pn=Z ⟨b,off,Y⟩/\b<X.heap.size/\Sv.Row X b off NL):=yo;have HNZ:Hid (∀j,(NL.getD j Sv.dm).ok):=Mb;have K0:Hid (X.heap[w.heap.size]?=Z (AT (eQ here (U ps ns cs) (U pm nm cm) px py pz ph pq (U pw nw cw)) 137 (0,0))):=(HX3.out.block _ (by omega)).trans wB.out;have K2:Hid (X.heap[w.heap.size+2]?=Z (AT #[I name,O J t,O J 0,O J 0,I ⟨#[]⟩,O J 0,I ⟨#[]⟩] 64 (0,0))):=(HX3.out.block _ (by omega)).trans oq.out;have hKX:w.heap.size+3<=X.heap.size:=by omega
  clear yo Mb;generalize Ns:NL.length=n at *;have sq:Hid (NL.length=n):=Ns;clear Ns;go_wp2_with fail;go_loopw [13,43] (λvl i wr=>∃k:Nat,k<=n/\i=O J k/\Hid (Rc.Own X.heap.size wr vl ((NL.take k).map (jj name here t)))/\Hid (Below X.heap.size X wr)/\Hid (∀j,j<k->ic here t (NL.getD j Sv.dm)=0)) (λ_ i _=>n-(intOf i).toNat)
  case atStart=>exact⟨0,Nat.zero_le _,rfl,Rc.bj _ _,Ib _ _,λj hj=>absurd hj (Nat.not_lt_zero _)⟩
  case round=>
   obtain⟨k,hk,rfl,HO,HB,HZ⟩:=hrel;have hsr:=HB.out.size;by_cases aL:k<n
   .obtain⟨b,off,lP,eY,hr⟩:∃b off,pn=Z ⟨b,off,Y⟩/\b<X.heap.size/\Sv.Row X b off NL:=by
     rcases HNA.out with h|h
     .have:=sq.out;rw[h] at this;simp at this;omega
     .exact h
    subst lP;have sO:k<NL.length:=by rw[sq.out];exact aL
    obtain⟨c0,c1,c2,c3,c4,c5,c6,c7,c8⟩:=hr.later HB.out eY k sO;clear hr;have HMS:Hid ((NL.take (k+1)).map (jj name here t)=(NL.take k).map (jj name here t)++[jj name here t (NL.getD k Sv.dm)]):=Ph sO;have so:(NL.getD k Sv.dm).node.size<=Ij:=(HNZ.out k).1;have HER:Hid (ic here t (NL.getD k Sv.dm)≠0->ie here t NL=ic here t (NL.getD k Sv.dm)):=λh=>Ar sO HZ.out h;have iS:Hid (ic here t (NL.getD k Sv.dm)=0->∀j,j<k+1->ic here t (NL.getD j Sv.dm)=0):=λh j hj=>by
     by_cases e:j=k
     .subst e;exact h
     .exact HZ.out j (by omega)
    have hRC:=λW=>aaw.out (NL.getD k Sv.dm) W so;have Hj:Hid _:=hRC;clear hRC;have Si:((NL.take k).map (jj name here t)).length<=20:=by rw[List.length_map];have:=List.length_take_le k NL;omega
    generalize NL.getD k Sv.dm=x at *;generalize ic here t x=ek at *;generalize jj name here t x=rk at *;generalize(NL.take k).map (jj name here t)=DL at *;obtain⟨nd,bF,Fv,tag,ad,po,lS,lT,lU⟩:=x;simp only at c0 c1 c2 c3 c4 c5 c6 c7 c8 so;have hd:∀ob,(wr.alloc ob).heap[w.heap.size]?=Z (AT (eQ here (U ps ns cs) (U pm nm cm) px py pz ph pq (U pw nw cw)) 137 (0,0)):=λob=>by rw[It _ _ _ (by omega),HB.out.block _ (by omega)];exact K0.out
    have G9:∀ob,(wr.alloc ob).heap[w.heap.size+2]?=Z (AT #[I name,O J t,O J 0,O J 0,I ⟨#[]⟩,O J 0,I ⟨#[]⟩] 64 (0,0)):=λob=>by rw[It _ _ _ (by omega),HB.out.block _ (by omega)];exact K2.out
    have d0:∀ob,(wr.alloc ob).cell? ⟨w.heap.size,0,Y⟩=Z (I here):=λob=>af (hd ob) 0;have d1:∀ob,(wr.alloc ob).cell? ⟨w.heap.size,1,Y⟩=Z (U ps ns cs):=λob=>af (hd ob) 1;have d2:∀ob,(wr.alloc ob).cell? ⟨w.heap.size,2,Y⟩=Z (U pm nm cm):=λob=>af (hd ob) 2;have d3:∀ob,(wr.alloc ob).cell? ⟨w.heap.size,3,Y⟩=Z (O J px):=λob=>af (hd ob) 3;have d4:∀ob,(wr.alloc ob).cell? ⟨w.heap.size,4,Y⟩=Z (O J py):=λob=>af (hd ob) 4;have d5:∀ob,(wr.alloc ob).cell? ⟨w.heap.size,5,Y⟩=Z (O J pz):=λob=>af (hd ob) 5;have d6:∀ob,(wr.alloc ob).cell? ⟨w.heap.size,6,Y⟩=Z (O J ph):=λob=>af (hd ob) 6;have d7:∀ob,(wr.alloc ob).cell? ⟨w.heap.size,7,Y⟩=Z (O J pq):=λob=>af (hd ob) 7;have d8:∀ob,(wr.alloc ob).cell? ⟨w.heap.size,8,Y⟩=Z (U pw nw cw):=λob=>af (hd ob) 8;have l0:∀ob,(wr.alloc ob).cell? ⟨w.heap.size+1+1,0,Y⟩=Z (I name):=λob=>af (G9 ob) 0;have l1:∀ob,(wr.alloc ob).cell? ⟨w.heap.size+1+1,1,Y⟩=Z (O J t):=λob=>af (G9 ob) 1;have l2:∀ob,(wr.alloc ob).cell? ⟨w.heap.size+1+1,2,Y⟩=Z (O J 0):=λob=>af (G9 ob) 2;have l3:∀ob,(wr.alloc ob).cell? ⟨w.heap.size+1+1,3,Y⟩=Z (O J 0):=λob=>af (G9 ob) 3;have l4:∀ob,(wr.alloc ob).cell? ⟨w.heap.size+1+1,4,Y⟩=Z (I ⟨#[]⟩):=λob=>af (G9 ob) 4;have l5:∀ob,(wr.alloc ob).cell? ⟨w.heap.size+1+1,5,Y⟩=Z (O J 0):=λob=>af (G9 ob) 5;have l6:∀ob,(wr.alloc ob).cell? ⟨w.heap.size+1+1,6,Y⟩=Z (I ⟨#[]⟩):=λob=>af (G9 ob) 6;clear hd G9;go_wp2_with fail;refine Calls.mono (Hj.out _) ?_;rintro e w5 ⟨r,rfl,zG,lA⟩;have WI:wr.heap.size+1<=w5.heap.size:=by have:=lA.size;simpa using this
    have jE:Hid (Below X.heap.size X w5):=(HB.out.alloc hsr _).trans (lA.mono (by simp<;>omega));have nT:Hid (Rc.Own X.heap.size w5 u13 DL):=(HO.out.below ((Ib _ _).alloc (By _) _)).below lA;clear lA d0 d1 d2 d3 d4 d5 d6 d7 d8 l0 l1 l2 l3 l4 l5 l6;by_cases hz:ek=0
    .have mr:Hid (∀j,j<k+1->ic here t (NL.getD j Sv.dm)=0):=iS.out hz
     have HRR:Hid (r=rk):=zG hz;clear zG iS HER;subst hz;obtain⟨rn,rt1,rl,ra,rx,rp,rg⟩:=r;go_wp2_with (at_builtin;refine wpList_append_own _ rfl _ _ 41 rfl X.heap.size 64 i0 _ 7 80 Tryz.underlying41 ei bW fs eU rfl (by omega) _ DL.length (Rc.fl DL) rfl ?hown ⟨w5.heap.size+1,0,Y⟩ 1 1 [I rn,O J rt1,O J rl,O J ra,I rx,O J rp,I rg] rfl rfl ?hnews (Rc.cC ⟨rn,rt1,rl,ra,rx,rp,rg⟩) ?h63 ?hbytes ?hbase ?_)
     case hown=>exact nT.out.below (((Ib _ _).alloc (By _) _).alloc (by simp) _)
     case hnews=>(intro j u hj;rw[Addr.add_lit];exact(bJ (by simp)).trans (by simpa using hj))
     case h63=>(unfold Ij;omega)
     case hbytes=>omega
     case hbase=>(simp;omega)
     intro v' w6 r1 r2 r3;have kX:Hid (Below X.heap.size X w6):=((jE.out.alloc (by omega) _).alloc (by simp<;>omega) _).grown r2 (by simp<;>omega) (λj hj=>(nT.out.lt j hj).1);have ny:Hid (Rc.Own X.heap.size w6 v' (DL++[⟨rn,rt1,rl,ra,rx,rp,rg⟩])):=Rc.eM r1;clear r1 r2 r3;go_wp2_with fail;go_roundw
     case rel=>exact⟨k+1,by omega,by go_num,by rw[HMS.out,<- HRR.out];exact ny.out,kX,mr⟩
     case measure=>simp[intOf];omega
    .have HE:Hid (ie here t NL=ek):=HER.out hz
     have HR:Hid (A=⟨[],0,ek⟩):=by have h:=A8.out (by rw[HE.out];exact hz);rw[HE.out] at h;exact h
     have We:(ek !=0)=true:=by simpa using hz
     have HBE:Hid (Below w.heap.size w w5):=da.out.trans (jE.out.mono (by omega));obtain⟨rn,rt1,rl,ra,rx,rp,rg⟩:=r;go_wp2_with fail;go_ret3
     exact⟨U Y 0 0,by rw[HR.out];rfl,by rw[HR.out];exact Rc.bj _ _,HBE.out.alloc (by omega) _⟩
   .have HE:Hid (ie here t NL=0):=xo λj hj=>HZ.out j (by have:=sq.out;omega)
    have HR:Hid (A=⟨NL.map (jj name here t),0,0⟩):=sD.out HE.out;have HOE:Hid (Rc.Own w.heap.size wr u13 (NL.map (jj name here t))):=by
     have h:=HO.out;rw[List.take_of_length_le (by rw[sq.out];omega)] at h;exact h.mono (by omega)
    have HBE:Hid (Below w.heap.size w wr):=da.out.trans (HB.out.mono (by omega));go_wp2_with fail;go_ret3
    exact⟨u13,by rw[HR.out];rfl,by rw[HR.out];exact HOE.out,HBE.out⟩
end Go.Proofs.YtfidjlcdlakceaaGreatDoor
