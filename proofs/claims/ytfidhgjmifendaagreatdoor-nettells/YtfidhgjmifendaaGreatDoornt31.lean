import Derived.Test.YtfidhgjmifendaaGreatDoornt17
import Derived.Test.YtfidhgjmifendaaGreatDoornt20
set_option maxHeartbeats 12800000
set_option maxRecDepth 100000
open Go.Lib renaming byteCells→Jp,decDigits→OJ,itoa→Qu,indexByte→Jg,indexByte_ge→QR
open Go.Value renaming pointer→Ie,string→Y,slice→J,int→U,agg→Ij,bool→Ia,tuple→Ik
open Go.Ending renaming returned→By
open Option renaming some→AI,none→be,bind_some→Ji,bind_eq_some_iff→Iw
open Go.Obj renaming cells→AT
open Go renaming maxLen→Il,bodyPost_ret→IK,heap_alloc_new→Ih,below_drewN→I8
open Go.Proofs.Tryz renaming prog→AS,underlying125→Jz,underlying3→ID
open Go.IntKind renaming i64→O
open Go.RowKit.Below renaming refl→Ib
open Bool renaming and_eq_true→IM
open Array renaming getElem?_eq_some_iff→BY
open List renaming singleton_append→OV,append_assoc→Im,mem_singleton→Jb,append_nil→JF,mem_cons_self→Ou,mem_cons→IT,mem_cons_of_mem→OA,length_cons→Iy,length_append→Ig,flatMap_cons→I0,flatMap_nil→Oq,nil_append→Qv,range→JD,length_singleton→J9,getD→Ip,getElem?_eq_getElem→If
open Int renaming toNat_natCast→JO
open Option.some renaming injEq→It
open Prod.mk renaming injEq→IP
open Nat renaming lt_of_lt_of_le→IN,le_refl→Ic,zero_add→IC,reduceAdd→Jh,zero_le→II
open Go.World renaming frozen?→Ir,block_lt_of_cell?→Ix
open Go.Maps renaming size→JB
namespace Go.Proofs.YtfidhgjmifendaaGreatDoor
open Go.RowKit
theorem Tryz.cellsByte:Tryz.prog.cellsOf 5=1:=by kernel_rfl
theorem BE(B b:Nat)(l:List UInt8)(w:World)(h:cY B b (Jp l) w)(h0:l≠[]) :
 aF 232 #[Ie (AI ⟨b,0,be⟩)] w λe w'=>e=By (Y ⟨l.toArray⟩)/\Below B w w':=by
 obtain⟨p,hB,v,CC,hown,aM⟩:∃p,Lx B b p (Jp l) w:=by
  rcases h with h|h
  .exact⟨_,h⟩
  .exact⟨_,h⟩
 have PH:l.length≠0:=by simpa using h0
 rw[Lib.byteCells_length] at hown;obtain⟨g,cap,cur,rfl,ev,hg,fG,dO,b9,bf⟩:∃g cap cur,v=J (AI ⟨g,0,be⟩) l.length cap/\B<=g/\w.heap[g]?=AI (AT cur 5 (0,0))/\l.length<=cap/\cap<=Il/\cur.size=cap*1/\cur.toList.take (l.length*1)=Jp l:=by
  rcases hown.2 with⟨_,hz⟩|⟨g,cap,cur,hv,r⟩
  .exact absurd hz PH
  .exact⟨g,cap,cur,hv,r⟩
 have c1:w.drew.cell? ⟨b,1,be⟩=AI (J (AI ⟨g,0,be⟩) l.length cap):=by
  have:w.drew.heap[b]?=AI (AT #[p,J (AI ⟨g,0,be⟩) l.length cap] 270 (0,0)):=CC
  rw[Lib.cell_of_heap this];rfl
 have hSD:(Builtin.unsafeSliceData_ #[266] 301 #[J (AI ⟨g,0,be⟩) l.length cap]).run AS w.drew=.ok (Ie (AI ⟨g,0,be⟩)) w.drew:=
  Lib.run_unsafeSliceData_row _ _ _ _ _ _ (by omega)
 have hUS:(Builtin.unsafeString_ #[301,3] 9 #[Ie (AI ⟨g,0,be⟩),U O l.length]).run AS w.drew=.ok (Y ⟨l.toArray⟩) (w.drew.freeze ⟨g,0,be⟩ l.length):=by
  refine Lib.run_unsafeString_row w.drew 301 3 9 5 Tryz.underlying301 Tryz.cellsByte g cur.size (by have uQ:w.drew.heap[g]?=AI (AT cur 5 (0,0)):=hg;simp[World.shape?,uQ]) l h0 (by omega) (by unfold Il at dO;omega) ?_;intro j x hx;have:=hown.cells (g:=g) rfl j (U .u8 x.toNat) (by simp[Jp,hx]);exact this
 have mixed:Tryz.prog.follows .mixedOrders=true:=by kernel_rfl
 go_enter Tryz.func232,Tryz.ntmps232;go_wp2_with fail;go_region_o
 all_goals (go_wp2;go_ret;exact⟨rfl,Lib.below_freeze (Below.drew (Ib B w)) (p:=⟨g,0,be⟩) ev _⟩)
theorem iU{s:ByteArray}(h:bb s=true):s.size<=1000:=by
 unfold bb at h;simp only[IM,decide_eq_true_eq] at h;have:=h.1.2;omega
theorem Km{s:ByteArray}(h:Sv.lO s=true):s.size<=1000:=by
 unfold Sv.lO at h;rw[Bool.or_eq_true,decide_eq_true_eq] at h;rcases h with rfl|h
 .show 0<=1000;omega
 .exact iU h
theorem gB{n a b:Int}(h:within n a b=true)(ha : -9223372036854775808<=a)(hb:b<=9223372036854775807):fK n:=by
 unfold within at h;rw[IM,decide_eq_true_eq,decide_eq_true_eq] at h;exact⟨by omega,by omega⟩
theorem Wl{m:Mem}(h:m.e=0):kb m:=by
 unfold Mem.e uY at h;split at h
 .rename_i h1
  split at h
  .rename_i h2
   split at h
   .rename_i h3
    split at h
    .rename_i h4
     exact⟨iU h1,gB h2 (by omega) (by omega),gB h3 (by omega) (by omega),gB h4 (by omega) (by omega)⟩
    .cases h
   .cases h
  .cases h
 .cases h
theorem adC{m:Sv.aT}(h:m.e=0):Sv.kb m:=by
 unfold Sv.aT.e at h;split at h
 .rename_i h1
  split at h
  .rename_i h2
   simp only[IM] at h1 h2;exact⟨iU h1.1,iU h1.2.1,iU h1.2.2.1,Km h1.2.2.2,gB h2.1 (by omega) (by omega),gB h2.2.1 (by omega) (by omega),gB h2.2.2 (by omega) (by omega)⟩
  .cases h
 .cases h
theorem adD{m:Gw.bK}(h:m.e=0):Gw.kb m:=by
 unfold Gw.bK.e at h;split at h
 .rename_i h1
  split at h
  .rename_i h2
   split at h
   .rename_i h3
    exact⟨iU h1,gB h2 (by omega) (by omega),gB h3 (by omega) (by omega)⟩
   .cases h
  .cases h
 .cases h
theorem adE{m:Wh.bE}(h:m.e=0):Wh.kb m:=by
 unfold Wh.bE.e at h;split at h
 .rename_i h1
  obtain⟨a0,a1,a2,a3,a4,a5,a6,a7,a8,a9⟩:=(nB _).1 h;simp only at a0 a1 a2 a3 a4 a5 a6 a7 a8 a9;exact⟨iU h1,⟨by omega,by omega⟩,⟨by omega,by omega⟩,⟨by omega,by omega⟩,⟨by omega,by omega⟩,⟨by omega,by omega⟩⟩
 .cases h
theorem BF{ms:List Mem}(h:bj ms=0):aR ms=0:=(af h).2.2
theorem oE{p:Pk}(h:p.e=0):p.Vq:=by
 unfold Pk.e at h;split at h
 .rename_i h0
  rw[IM] at h0;split at h
  .rename_i h1
   have hm:p.ms.length<=20/\∀m∈p.ms,kb m:=by
    unfold Pk.mE at h1;split at h1
    .exact⟨(af h1).1,λm hm=>Wl (bc _ (BF h1) m hm)⟩
    .obtain⟨a,b,_⟩:=vQ h1
     exact⟨by omega,λm hm=>Wl (bc _ b m hm)⟩
   split at h
   .rename_i h2
    split at h
    .rename_i h3
     exact⟨iU h0.1,hm,⟨(Sv.af h2).1,λm hm=>adC (Sv.bc _ (Sv.af h2).2.2 m hm)⟩,⟨(Gw.af h3).1,λm hm=>adD (Gw.bc _ (Gw.af h3).2.2 m hm)⟩,⟨(Wh.af h).1,λm hm=>adE (Wh.bc _ (Wh.af h).2.2 m hm)⟩⟩
    .rename_i h3;exact absurd h h3
   .rename_i h2;exact absurd h h2
  .rename_i h1;exact absurd h h1
 .cases h
def Pk.T(p:Pk):ByteArray:=if p.e=0 then⟨p.B.toArray⟩ else⟨#[]⟩
theorem Pk.adF(p:Pk):p.B≠[]:=by
 unfold Pk.B mq fH;simp
theorem oF(p:Pk)(zm zs zg zw:Value)(w:World)(hx:jY w p zm zs zg zw)(hlen:p.whole=true\/p.sv.length+p.gw.length+p.wh.length<=4611686018427387904)(hT:ma w.heap.size w) :
 kx 199 #[Ij #[Y p.cU,Ia p.whole,zm,zs,zg,zw]] w (Ik #[Y p.T,U O p.e]):=by
 have nN:Hid (∀W,Below w.heap.size w W->aF _ _ _ _):=λW hW=>lD p zm zs zg zw W (hx.below hW) hlen;have HWP:Hid (p.e=0->∀W b,Below w.heap.size w W->cY w.heap.size b [] W->aF 231 #[Ie (AI ⟨b,0,be⟩),Ij #[Y p.cU,Ia p.whole,zm,zs,zg,zw]] W λe w'=>e=By (Ik #[])/\cY w.heap.size b (Jp p.B) w'/\Kp w.heap.size b W w'):=λh0 W b hW hI=>by
  have h:=yR w.heap.size b p zm zs zg zw w W hI hx rfl hW hW.size (hT.below hW) (oE h0);rw[p.Vp] at h;exact h
 have yp:Hid (p.T=if p.e=0 then⟨p.B.toArray⟩ else⟨#[]⟩):=rfl;have HNE:Hid _:=p.adF;generalize p.B=PB at *;generalize p.T=PT at *;generalize p.e=pe at *;obtain⟨cU,whole,ms,sv,gw,wh⟩:=p;obtain⟨⟨pm,cm,rfl,_,_⟩,⟨ps,cs,rfl,_,_⟩,⟨pg,cg,rfl,_,_⟩,⟨ph,ch,rfl,_,_⟩,_,_⟩:=hx;simp only at nN HWP ⊢;generalize ms.length=nm at *;generalize sv.length=ns at *;generalize gw.length=ng at *;generalize wh.length=nh at *;clear hlen hT;obtain⟨W0,bJ,bM,-,dG⟩:=bW w #[Y cU,Ia whole,J pm nm cm,J ps ns cs,J pg ng cg,J ph nh ch] 53;have da:Hid _:=bM;have AM:Hid _:=dG;have p0:=ae dG 0;have p1:=ae dG 1;have p2:=ae dG 2;have p3:=ae dG 3;have p4:=ae dG 4;have p5:=ae dG 5;clear bM dG;go_enter Tryz.func199,Tryz.ntmps199;go_upto_region 1 with fail
 rw[<- bJ];clear bJ;go_wp2_with fail;refine(nN.out W0 da.out).mono ?_;rintro e w1 ⟨rfl,aB⟩;have aV:Hid _:=da.out.trans (aB.mono da.out.size);have cK:=(aB.block _ (BY.1 AM.out).1).trans AM.out;have uS:Hid _:=cK;clear aB cK p0 p1 p2 p3 p4 p5;by_cases h0:pe=0;rotate_left
 .have xl:Hid _:=yp.out.trans (if_neg h0)
  have h1:(pe !=0)=true:=by simpa using h0
  clear h0;go_wp2_with fail;refine IK (v:=Ik #[Y ⟨#[]⟩,U O pe]) ?_ rfl ?_
  .simp[results,Tryz.results199,go_sem]
  .exact⟨by rw[xl.out],aV.out⟩
 .subst h0
  have xl:Hid _:=yp.out.trans (if_pos rfl);have HWQ:=HWP.out rfl;have PI:Hid _:=HWQ;clear HWQ HWP yp;obtain⟨W2,bF,aJ,-,tn⟩:=bW w1 #[Ie be,J be 0 0] 270;have TT:Hid (cY w.heap.size w1.heap.size [] W2):=.inl ⟨aV.out.size,J be 0 0,tn,⟨by simp,.inl ⟨rfl,rfl⟩⟩,by simp[Value.ownBlock]⟩;have yN:=aV.out.trans (aJ.mono aV.out.size);have oX:Hid _:=yN;have dQ:=(aJ.block _ (BY.1 uS.out).1).trans uS.out;have p0:=ae dQ 0;have p1:=ae dQ 1;have p2:=ae dQ 2;have p3:=ae dQ 3;have p4:=ae dQ 4;have p5:=ae dQ 5;clear aJ tn dQ yN;go_upto_region 5 with fail
  rw[<- bF];clear bF;go_wp2_with fail;refine(PI.out W2 w1.heap.size oX.out TT.out).mono ?_;rintro e w3 ⟨rfl,h3,jO⟩;have HI3:Hid (cY _ _ _ _):=h3;have cj:Hid _:=oX.out.trans jO.jX;clear h3 jO p0 p1 p2 p3 p4 p5;go_wp2_with fail;refine(BE w.heap.size w1.heap.size PB w3 HI3.out HNE.out).mono ?_;rintro e w4 ⟨rfl,eO⟩;have eP:Hid _:=cj.out.trans eO;clear eO;go_wp2_with fail;refine IK (v:=Ik #[Y ⟨PB.toArray⟩,U O 0]) ?_ rfl ?_
  .simp[results,Tryz.results199,go_sem]
  .exact⟨by rw[xl.out],eP.out⟩
theorem xB{d:Nat}(h:d<10):(UInt8.ofNat (48+d)).toNat=48+d:=by
 rw[UInt8.toNat_ofNat'];omega
theorem Sy(u:Nat)(hu:u<18446744073709551616)(t:List UInt8):Lib.parseUint10 0 (OJ u++t)=Lib.parseUint10 u t:=by
 induction u using Nat.strongRecOn generalizing t with
 |_ u ih=>
  rw[OJ];split
  .rename_i h
   rw[OV,Lib.parseUint10,xB h,if_pos (by omega),if_neg (by omega),if_neg (by omega)];congr 1;omega
  .rename_i h
   rw[Im,ih (u/10) (by omega) (by omega),OV,Lib.parseUint10,xB (by omega),if_pos (by omega),if_neg (by omega),if_neg (by omega)];congr 1;omega
theorem xC(u:Nat):∀c∈OJ u,48<=c.toNat/\c.toNat<=57:=by
 induction u using Nat.strongRecOn with
 |_ u ih=>
  intro c hc;rw[OJ] at hc;split at hc
  .rename_i h
   rw[Jb.1 hc,xB h];omega
  .rename_i h
   rcases List.mem_append.1 hc with hc|hc
   .exact ih (u/10) (by omega) c hc
   .rw[Jb.1 hc,xB (by omega)]
    omega
theorem Kn(u:Nat):OJ u≠[]:=by
 rw[OJ];split<;>simp
theorem Ko{u:Nat}(hu:u<18446744073709551616):Lib.parseMag (OJ u)=.ok u:=by
 unfold Lib.parseMag;rw[if_neg (Kn u)];have:=Sy u hu [];rw[JF] at this;rw[this];rfl
theorem Ew{n:Int}(h:fK n):Lib.atoiAll (Qu n)=.ok n:=by
 unfold Qu;obtain⟨h1,h2⟩:=h;split
 .rw[Lib.atoiAll_minus,Ko (by omega)]
  unfold Lib.signed;simp only;rw[if_neg (by omega)];congr 1;omega
 .cases hd:OJ n.toNat with
  |nil=>exact absurd hd (Kn _)
  |cons c r=>
   have hc:=xC n.toNat c (by rw[hd];exact Ou);rw[Lib.atoiAll_plain c r (by omega) (by omega),<- hd,Ko (by omega)];unfold Lib.signless;simp only;rw[if_neg (by omega)];congr 1;omega
theorem Ex(n:Int):∀c∈Qu n,c≠59:=by
 intro c hc;unfold Qu at hc;split at hc
 .rcases IT.1 hc with rfl|hc
  .decide
  .have:=xC _ c hc
   intro e;subst e
   have:(59:UInt8).toNat=59:=rfl
   omega
 .have:=xC _ c hc
  intro e;subst e
  have:(59:UInt8).toNat=59:=rfl
  omega
theorem PJ:∀(l r:List UInt8),(∀c∈l,c≠59)->Jg (l++59::r) 59=(l.length:Int)
 |[],r,_=>by
  unfold Jg;simp
 |x::l,r,h=>by
  have ih:=PJ l r (λc hc=>h c (OA _ hc));have hx:=h x Ou;rw[List.cons_append,Jg,if_neg (by simpa using hx),ih,if_neg (by simp)];rw[Iy];omega
theorem De(c:UInt8):∀{l:List UInt8} {i:Nat},Jg l c=(i:Int)->l=l.take i++c::l.drop (i+1)
 |[],i,h=>by unfold Jg at h;omega
 |x::r,i,h=>by
  unfold Jg at h;split at h
  .rename_i hx
   have hi:i=0:=by omega
   subst hi
   have:x=c:=by simpa using hx
   rw[this];simp
  .split at h
   .omega
   .rename_i h2
    have hg:=QR r c
    obtain⟨j,rfl⟩:∃j,i=j+1:=⟨i-1,by have:Jg r c ≠ -1:=by simpa using h2
                                    omega⟩
    have:=De c (l:=r) (i:=j) (by omega);rw[List.take_succ_cons,List.drop_succ_cons,List.cons_append,<- this]
theorem dN{n:Int}(h:fK n)(r:List UInt8):mH (fH n++r)=AI (n,r):=by
 unfold mH fH;rw[Im,OV,PJ _ r (Ex n),if_neg (by omega),JO,List.take_left,Ew h];simp only[if_true];congr 2;have e:Qu n++59::r=(Qu n++[59])++r:=by simp
 rw[e,List.drop_left' (by simp)]
theorem eM{l r:List UInt8}{n:Int}(h:mH l=AI (n,r)):l=fH n++r/\fK n:=by
 have nO:=(db h).1;unfold mH at h;split at h
 .simp at h
 rename_i aM;obtain⟨i,hi⟩:∃i:Nat,Jg l 59=(i:Int):=⟨(Jg l 59).toNat,by have:=QR l 59;omega⟩;rw[hi] at h;simp only[JO] at h;split at h
 case h_2=>simp at h
 rename_i m hm;split at h
 case isFalse=>simp at h
 rename_i hd;simp only[It,IP] at h;obtain⟨rfl,rfl⟩:=h;refine⟨?_,nO⟩;unfold fH;rw[hd,Im,OV];exact De 59 hi
theorem kp{s:ByteArray}(h:s.size<=140737488355328)(r:List UInt8):yT (mq s++r)=AI (s,r):=by
 unfold yT mq;rw[Im,dN ⟨by omega,by omega⟩];simp only;have hl:s.data.toList.length=s.size:=rfl;rw[if_pos ⟨by omega,by rw[Ig];omega⟩,JO,List.take_left' hl,List.drop_left' hl];rfl
theorem mU{l r:List UInt8}{s:ByteArray}(h:yT l=AI (s,r)):l=mq s++r:=by
 unfold yT at h;split at h
 case h_2=>simp at h
 rename_i n r' hn;split at h
 case isFalse=>simp at h
 rename_i hk;simp only[It,IP] at h;obtain⟨rfl,rfl⟩:=h;have e:=(eM hn).1;unfold mq;rw[jy,List.length_take,Nat.min_eq_left (by omega),kN,Im,List.take_append_drop,show((n.toNat:Nat):Int)=n by omega];exact e
theorem sq(y:Bool)(r:List UInt8):DR (wN y++r)=AI (y,r):=by
 unfold DR wN;rw[dN (by split<;>exact⟨by omega,by omega⟩)];cases y<;>simp
theorem xD{l r:List UInt8}{y:Bool}(h:DR l=AI (y,r)):l=wN y++r:=by
 unfold DR at h;split at h
 case h_2=>simp at h
 rename_i n r' hn;have e:=(eM hn).1;unfold wN;split at h
 .rename_i h0
  simp only[It,IP] at h;obtain⟨rfl,rfl⟩:=h;rw[e,h0];simp
 .split at h
  .rename_i h1
   simp only[It,IP] at h;obtain⟨rfl,rfl⟩:=h;rw[e,h1];simp
  .simp at h
theorem Kr{x y z u v:Int}(h1:fK x)(h2:fK y)(h3:fK z)(h4:fK u)(h5:fK v)(r:List UInt8):LA ([x,y,z,u,v].flatMap fH++r)=AI ((x,y,z,u,v),r):=by
 unfold LA;simp only[I0,Oq,JF,Im,dN h1,dN h2,dN h3,dN h4,dN h5,Ji]
theorem Sz{l r:List UInt8}{x y z u v:Int}(h:LA l=AI ((x,y,z,u,v),r)):l=[x,y,z,u,v].flatMap fH++r:=by
 unfold LA at h;simp only[Iw,It,IP] at h;obtain⟨⟨x',r1⟩,n1,⟨y',r2⟩,n2,⟨z',r3⟩,n3,⟨u',r4⟩,n4,⟨v',r5⟩,n5,⟨rfl,rfl,rfl,rfl,rfl⟩,rfl⟩:=h;simp only at n1 n2 n3 n4 n5 ⊢;have e1:=(eM n1).1;have e2:=(eM n2).1;have e3:=(eM n3).1;have e4:=(eM n4).1;have e5:=(eM n5).1;simp only[I0,Oq,JF,Im];rw[e1,e2,e3,e4,e5]
theorem lT{m:Mem}(h:kb m)(r:List UInt8):en (gH m++r)=AI (m,r):=by
 obtain⟨h0,h1,h2,h3⟩:=h;unfold en gH;simp only[I0,Oq,JF,Im,kp (s:=m.name) (by omega),dN h1,dN h2,dN h3,sq m.server,Ji]
theorem lU{l r:List UInt8}{m:Mem}(h:en l=AI (m,r)):l=gH m++r:=by
 unfold en at h;simp only[Iw,It,IP] at h;obtain⟨⟨x0,r1⟩,n0,⟨x1,r2⟩,n1,⟨x2,r3⟩,n2,⟨x3,r4⟩,n3,⟨x4,r5⟩,n4,rfl,rfl⟩:=h;simp only at n0 n1 n2 n3 n4 ⊢;have e0:=mU n0;have e1:=(eM n1).1;have e2:=(eM n2).1;have e3:=(eM n3).1;have e4:=xD n4;unfold gH;simp only[I0,Oq,JF,Im];rw[e0,e1,e2,e3,e4]
theorem gS:∀(E:List Mem),(∀m∈E,kb m)->∀(D:List Mem) (r:List UInt8),dC E.length (E.flatMap gH++r) D=AI (D++E,r)
 |[],_,D,r=>by simp[dC]
 |m::E,h,D,r=>by
  rw[I0,Im,Iy,dC,lT (h m Ou),Ji];simp only;rw[gS E (λx hx=>h x (OA _ hx)) (D++[m]) r,Im];rfl
theorem gT:∀{n:Nat} {l r:List UInt8} {D E:List Mem},dC n l D=AI (E,r)->∃X:List Mem,X.length=n/\E=D++X/\l=X.flatMap gH++r
 |0,l,r,D,E,h=>by
  simp only[dC,It,IP] at h;obtain⟨rfl,rfl⟩:=h;exact⟨[],rfl,by simp,by simp⟩
 |n+1,l,r,D,E,h=>by
  obtain⟨⟨m,r'⟩,he,h⟩:=Iw.1 h;obtain⟨X,h1,h2,h3⟩:=gT h;exact⟨m::X,by simp[h1],by rw[h2];simp,by rw[lU he,show r'=_ from h3,I0,Im]⟩
theorem iB{E:List Mem}(hl:E.length<=1000)(h:∀m∈E,kb m)(r:List UInt8):bU (fH E.length++E.flatMap gH++r)=AI (E,r):=by
 unfold bU;rw[Im,dN ⟨by omega,by omega⟩,Ji];simp only;rw[if_pos (by omega),JO,gS E h [] r];rfl
theorem iC{l r:List UInt8}{E:List Mem}(h:bU l=AI (E,r)):l=fH E.length++E.flatMap gH++r:=by
 unfold bU at h;rw[Iw] at h;obtain⟨⟨n,r1⟩,h1,h2⟩:=h;simp only at h2;split at h2
 .rename_i h0
  obtain⟨X,g1,g2,g3⟩:=gT h2;rw[Qv] at g2;subst g2;rw[(eM h1).1,g3,g1,show((n.toNat:Nat):Int)=n by omega,Im]
 .cases h2
namespace Sv
theorem lT{m:aT}(h:kb m)(r:List UInt8):en (gH m++r)=AI (m,r):=by
 obtain⟨h0,h1,h2,h3,h4,h5,h6⟩:=h;unfold en gH;simp only[I0,Oq,JF,Im,kp (s:=m.node) (by omega),kp (s:=m.bu) (by omega),kp (s:=m.name) (by omega),kp (s:=m.tag) (by omega),dN h4,dN h5,sq m.aj,dN h6,sq m.gone,Ji]
theorem lU{l r:List UInt8}{m:aT}(h:en l=AI (m,r)):l=gH m++r:=by
 unfold en at h;simp only[Iw,It,IP] at h;obtain⟨⟨x0,r1⟩,n0,⟨x1,r2⟩,n1,⟨x2,r3⟩,n2,⟨x3,r4⟩,n3,⟨x4,r5⟩,n4,⟨x5,r6⟩,n5,⟨x6,r7⟩,n6,⟨x7,r8⟩,n7,⟨x8,r9⟩,n8,rfl,rfl⟩:=h;simp only at n0 n1 n2 n3 n4 n5 n6 n7 n8 ⊢;have e0:=mU n0;have e1:=mU n1;have e2:=mU n2;have e3:=mU n3;have e4:=(eM n4).1;have e5:=(eM n5).1;have e6:=xD n6;have e7:=(eM n7).1;have e8:=xD n8;unfold gH;simp only[I0,Oq,JF,Im];rw[e0,e1,e2,e3,e4,e5,e6,e7,e8]
theorem gS:∀(E:List aT),(∀m∈E,kb m)->∀(D:List aT) (r:List UInt8),dC E.length (E.flatMap gH++r) D=AI (D++E,r)
 |[],_,D,r=>by simp[dC]
 |m::E,h,D,r=>by
  rw[I0,Im,Iy,dC,lT (h m Ou),Ji];simp only;rw[gS E (λx hx=>h x (OA _ hx)) (D++[m]) r,Im];rfl
theorem gT:∀{n:Nat} {l r:List UInt8} {D E:List aT},dC n l D=AI (E,r)->∃X:List aT,X.length=n/\E=D++X/\l=X.flatMap gH++r
 |0,l,r,D,E,h=>by
  simp only[dC,It,IP] at h;obtain⟨rfl,rfl⟩:=h;exact⟨[],rfl,by simp,by simp⟩
 |n+1,l,r,D,E,h=>by
  obtain⟨⟨m,r'⟩,he,h⟩:=Iw.1 h;obtain⟨X,h1,h2,h3⟩:=gT h;exact⟨m::X,by simp[h1],by rw[h2];simp,by rw[lU he,show r'=_ from h3,I0,Im]⟩
theorem iB{E:List aT}(hl:E.length<=1000)(h:∀m∈E,kb m)(r:List UInt8):bU (fH E.length++E.flatMap gH++r)=AI (E,r):=by
 unfold bU;rw[Im,dN ⟨by omega,by omega⟩,Ji];simp only;rw[if_pos (by omega),JO,gS E h [] r];rfl
theorem iC{l r:List UInt8}{E:List aT}(h:bU l=AI (E,r)):l=fH E.length++E.flatMap gH++r:=by
 unfold bU at h;rw[Iw] at h;obtain⟨⟨n,r1⟩,h1,h2⟩:=h;simp only at h2;split at h2
 .rename_i h0
  obtain⟨X,g1,g2,g3⟩:=gT h2;rw[Qv] at g2;subst g2;rw[(eM h1).1,g3,g1,show((n.toNat:Nat):Int)=n by omega,Im]
 .cases h2
end Sv
namespace Gw
theorem lT{m:bK}(h:kb m)(r:List UInt8):en (gH m++r)=AI (m,r):=by
 obtain⟨h0,h1,h2⟩:=h;unfold en gH;simp only[I0,Oq,JF,Im,kp (s:=m.aD) (by omega),dN h1,dN h2,Ji]
theorem lU{l r:List UInt8}{m:bK}(h:en l=AI (m,r)):l=gH m++r:=by
 unfold en at h;simp only[Iw,It,IP] at h;obtain⟨⟨x0,r1⟩,n0,⟨x1,r2⟩,n1,⟨x2,r3⟩,n2,rfl,rfl⟩:=h;simp only at n0 n1 n2 ⊢;have e0:=mU n0;have e1:=(eM n1).1;have e2:=(eM n2).1;unfold gH;simp only[I0,Oq,JF,Im];rw[e0,e1,e2]
theorem gS:∀(E:List bK),(∀m∈E,kb m)->∀(D:List bK) (r:List UInt8),dC E.length (E.flatMap gH++r) D=AI (D++E,r)
 |[],_,D,r=>by simp[dC]
 |m::E,h,D,r=>by
  rw[I0,Im,Iy,dC,lT (h m Ou),Ji];simp only;rw[gS E (λx hx=>h x (OA _ hx)) (D++[m]) r,Im];rfl
theorem gT:∀{n:Nat} {l r:List UInt8} {D E:List bK},dC n l D=AI (E,r)->∃X:List bK,X.length=n/\E=D++X/\l=X.flatMap gH++r
 |0,l,r,D,E,h=>by
  simp only[dC,It,IP] at h;obtain⟨rfl,rfl⟩:=h;exact⟨[],rfl,by simp,by simp⟩
 |n+1,l,r,D,E,h=>by
  obtain⟨⟨m,r'⟩,he,h⟩:=Iw.1 h;obtain⟨X,h1,h2,h3⟩:=gT h;exact⟨m::X,by simp[h1],by rw[h2];simp,by rw[lU he,show r'=_ from h3,I0,Im]⟩
theorem iB{E:List bK}(hl:E.length<=1000)(h:∀m∈E,kb m)(r:List UInt8):bU (fH E.length++E.flatMap gH++r)=AI (E,r):=by
 unfold bU;rw[Im,dN ⟨by omega,by omega⟩,Ji];simp only;rw[if_pos (by omega),JO,gS E h [] r];rfl
theorem iC{l r:List UInt8}{E:List bK}(h:bU l=AI (E,r)):l=fH E.length++E.flatMap gH++r:=by
 unfold bU at h;rw[Iw] at h;obtain⟨⟨n,r1⟩,h1,h2⟩:=h;simp only at h2;split at h2
 .rename_i h0
  obtain⟨X,g1,g2,g3⟩:=gT h2;rw[Qv] at g2;subst g2;rw[(eM h1).1,g3,g1,show((n.toNat:Nat):Int)=n by omega,Im]
 .cases h2
end Gw
namespace Wh
theorem lT{m:bE}(h:kb m)(r:List UInt8):en (gH m++r)=AI (m,r):=by
 obtain⟨h0,h1,h2,h3,h4,h5⟩:=h;unfold en gH;rw[Im,kp (s:=m.node) (by omega),Ji];simp only;rw[Kr h1 h2 h3 h4 h5,Ji]
theorem lU{l r:List UInt8}{m:bE}(h:en l=AI (m,r)):l=gH m++r:=by
 unfold en at h;simp only[Iw,It,IP] at h;obtain⟨⟨x0,r1⟩,n0,⟨⟨x1,x2,x3,x4,x5⟩,r2⟩,n1,rfl,rfl⟩:=h;simp only at n0 n1 ⊢;unfold gH;rw[mU n0,Sz n1,Im]
theorem gS:∀(E:List bE),(∀m∈E,kb m)->∀(D:List bE) (r:List UInt8),dC E.length (E.flatMap gH++r) D=AI (D++E,r)
 |[],_,D,r=>by simp[dC]
 |m::E,h,D,r=>by
  rw[I0,Im,Iy,dC,lT (h m Ou),Ji];simp only;rw[gS E (λx hx=>h x (OA _ hx)) (D++[m]) r,Im];rfl
theorem gT:∀{n:Nat} {l r:List UInt8} {D E:List bE},dC n l D=AI (E,r)->∃X:List bE,X.length=n/\E=D++X/\l=X.flatMap gH++r
 |0,l,r,D,E,h=>by
  simp only[dC,It,IP] at h;obtain⟨rfl,rfl⟩:=h;exact⟨[],rfl,by simp,by simp⟩
 |n+1,l,r,D,E,h=>by
  obtain⟨⟨m,r'⟩,he,h⟩:=Iw.1 h;obtain⟨X,h1,h2,h3⟩:=gT h;exact⟨m::X,by simp[h1],by rw[h2];simp,by rw[lU he,show r'=_ from h3,I0,Im]⟩
theorem iB{E:List bE}(hl:E.length<=1000)(h:∀m∈E,kb m)(r:List UInt8):bU (fH E.length++E.flatMap gH++r)=AI (E,r):=by
 unfold bU;rw[Im,dN ⟨by omega,by omega⟩,Ji];simp only;rw[if_pos (by omega),JO,gS E h [] r];rfl
theorem iC{l r:List UInt8}{E:List bE}(h:bU l=AI (E,r)):l=fH E.length++E.flatMap gH++r:=by
 unfold bU at h;rw[Iw] at h;obtain⟨⟨n,r1⟩,h1,h2⟩:=h;simp only at h2;split at h2
 .rename_i h0
  obtain⟨X,g1,g2,g3⟩:=gT h2;rw[Qv] at g2;subst g2;rw[(eM h1).1,g3,g1,show((n.toNat:Nat):Int)=n by omega,Im]
 .cases h2
end Wh
theorem SA{p:Pk}(h:p.Vq)(r:List UInt8):uM (p.B++r)=AI (p,r):=by
 unfold uM Pk.B;rw[Im,Im,Im,Im,Im,kp (by have:=h.cU;omega),Ji];simp only;rw[sq,Ji];simp only;rw[iB (by have:=h.ms.1;omega) h.ms.2,Ji];simp only;rw[Sv.iB (by have:=h.sv.1;omega) h.sv.2,Ji];simp only;rw[Gw.iB (by have:=h.gw.1;omega) h.gw.2,Ji];simp only;rw[Wh.iB (by have:=h.wh.1;omega) h.wh.2,Ji]
theorem Df{l r:List UInt8}{p:Pk}(h:uM l=AI (p,r)):l=p.B++r:=by
 unfold uM at h;simp only[Iw,It,IP] at h;obtain⟨⟨x0,r1⟩,n0,⟨x1,r2⟩,n1,⟨x2,r3⟩,n2,⟨x3,r4⟩,n3,⟨x4,r5⟩,n4,⟨x5,r6⟩,n5,rfl,rfl⟩:=h;simp only at n0 n1 n2 n3 n4 n5 ⊢;have e0:=mU n0;have e1:=xD n1;have e2:=iC n2;have e3:=Sv.iC n3;have e4:=Gw.iC n4;have e5:=Wh.iC n5;unfold Pk.B;simp only[Im] at e2 e3 e4 e5 ⊢;rw[e0,e1,e2,e3,e4,e5]
def yu(l:List UInt8):Option Pk:=(uM l).bind λa=>if a.2=[]/\a.1.e=0 then AI a.1 else be
theorem kU{l:List UInt8}{p:Pk}:yu l=AI p↔l=p.B/\p.e=0:=by
 unfold yu;rw[Iw];constructor
 .rintro⟨⟨q,r⟩,h1,h2⟩
  simp only at h2;split at h2
  .rename_i h3
   simp only[It] at h2;subst h2;have:=Df h1;rw[h3.1,JF] at this;exact⟨this,h3.2⟩
  .cases h2
 .rintro⟨rfl,he⟩
  have:=SA (oE he) [];rw[JF] at this;exact⟨(p,[]),this,by simp[he]⟩
structure Nt where
 ns:List Nd
 ls:List Lt.fb
def cS:Nd:=⟨⟨#[]⟩,⟨#[]⟩,[],[],[],[],⟨0,0,0,0,0⟩,[]⟩
def gU(ns:List Nd):Prop:=∀i j,i<j->j<ns.length->(ns.getD i cS).name≠(ns.getD j cS).name
def apN(ns:List Nd):Bool:=(JD ns.length).all λj=>(JD j).all λi=>decide ((ns.getD i cS).name≠(ns.getD j cS).name)
theorem xE(ns:List Nd):apN ns=true↔gU ns:=by
 simp only[apN,List.all_eq_true,List.mem_range,decide_eq_true_eq];exact⟨λh i j iY hj=>h j hj i iY,λh j hj i iY=>h i j iY hj⟩
def nK{α:Type}(f:α->Int):List α->Int
 |[]=>0
 |x::r=>if f x=0 then nK f r else f x
theorem xF{α:Type}(f:α->Int)(d:α):∀(l:List α) (k:Nat),k<l.length->(∀j,j<k->f (l.getD j d)=0)->f (l.getD k d)≠0->nK f l=f (l.getD k d)
 |[],k,hk,_,_=>by simp at hk
 |x::r,0,_,_,aM=>by
  have:f x≠0:=by simpa using aM
  simp only[nK];rw[if_neg this];simp
 |x::r,k+1,hk,hz,aM=>by
  have h0:f x=0:=by simpa using hz 0 (by omega)
  simp only[nK];rw[if_pos h0,xF f d r k (by simpa using hk) (λj hj=>by simpa using hz (j+1) (by omega)) (by simpa using aM)];simp
theorem nC{α:Type}(f:α->Int)(d:α):∀(l:List α),(∀j,j<l.length->f (l.getD j d)=0)->nK f l=0
 |[],_=>rfl
 |x::r,h=>by
  have h0:f x=0:=by simpa using h 0 (by simp)
  simp only[nK];rw[if_pos h0];exact nC f d r (λj hj=>by simpa using h (j+1) (by simpa using hj))
theorem tH{α:Type}(f:α->Int):∀{l:List α},nK f l=0->∀x∈l,f x=0
 |y::r,h,x,hx=>by
  simp only[nK] at h;split at h
  .rename_i h0
   rcases IT.1 hx with rfl|hx
   .exact h0
   .exact tH f h x hx
  .rename_i h0;exact absurd h h0
def vd(k:Nat)(l:Lt.fb):Int:=if within l.to 0 ((k:Int)-1)=true then(if(yu l.text.data.toList).isSome=true then 0 else 1) else 3
def j8(ns:List Nd):Int:=if nK Nd.e ns=0 then(if apN ns=true then 0 else 6) else nK Nd.e ns
def Nt.e(t:Nt):Int:=if 6<t.ns.length\/20<t.ls.length then 2 else if j8 t.ns=0 then nK (vd t.ns.length) t.ls else j8 t.ns
theorem SB{ns:List Nd}{k:Nat}(hk:k<ns.length)(hz:∀j,j<k->(ns.getD j cS).e=0)(aM:(ns.getD k cS).e≠0):j8 ns=(ns.getD k cS).e:=by
 have h:=xF Nd.e cS ns k hk hz aM;rw[j8,h,if_neg aM]
theorem BG{ns:List Nd}(hz:∀j,j<ns.length->(ns.getD j cS).e=0)(hd:¬ gU ns):j8 ns=6:=by
 rw[j8,if_pos (nC _ cS ns hz),if_neg (λh=>hd ((xE ns).1 h))]
theorem Dg{ns:List Nd}(hz:∀j,j<ns.length->(ns.getD j cS).e=0)(hd:gU ns):j8 ns=0:=by
 rw[j8,if_pos (nC _ cS ns hz),if_pos ((xE ns).2 hd)]
def ve(w:World)(b off:Nat)(ns:List Nd):Prop:=∀j,j<ns.length->∃vm vr vs vg vw,eS w (ns.getD j cS) vm vr vs vg vw/\∀i,i<12->w.cell? ⟨b,off+j*12+i,be⟩=(dt (ns.getD j cS) vm vr vs vg vw)[i]?
theorem ve.below{w w':World}{b off:Nat}{ns:List Nd}(h:ve w b off ns)(hb:Below w.heap.size w w')(hl:b<w.heap.size):ve w' b off ns:=λj hj=>by
 obtain⟨vm,vr,vs,vg,vw,h1,h2⟩:=h j hj;exact⟨vm,vr,vs,vg,vw,h1.below hb,λi hi=>(hb.cell (p:=⟨b,off+j*12+i,be⟩) hl).trans (h2 i hi)⟩
def xG(w:World)(v:Value)(ns:List Nd):Prop:=∃(a:Option Addr) (cap:Nat),v=J a ns.length cap/\(ns=[]\/∃b off,a=AI ⟨b,off,be⟩/\b<w.heap.size/\ve w b off ns)
theorem xG.below{w w':World}{v:Value}{ns:List Nd}(h:xG w v ns)(hb:Below w.heap.size w w'):xG w' v ns:=by
 obtain⟨a,cap,rfl,h⟩:=h;refine⟨a,cap,rfl,?_⟩;rcases h with h|⟨b,off,rfl,hl,hr⟩
 .exact .inl h
 .exact .inr ⟨b,off,rfl,IN hl hb.size,hr.below hb hl⟩
theorem ve.at{w:World}{b off k:Nat}{ns:List Nd}(h:ve w b off ns)(hk:k<ns.length):∃vm vr vs vg vw,eS w (ns.getD k cS) vm vr vs vg vw/\w.cell? ⟨b,off+k*12,be⟩=AI (Y (ns.getD k cS).name)/\w.cell? ⟨b,off+k*12+1,be⟩=AI (Y (ns.getD k cS).aD)/\w.cell? ⟨b,off+k*12+2,be⟩=AI vm/\w.cell? ⟨b,off+k*12+3,be⟩=AI vr/\w.cell? ⟨b,off+k*12+4,be⟩=AI vs/\w.cell? ⟨b,off+k*12+5,be⟩=AI vg/\w.cell? ⟨b,off+k*12+6,be⟩=AI (U O (ns.getD k cS).p.x)/\w.cell? ⟨b,off+k*12+7,be⟩=AI (U O (ns.getD k cS).p.y)/\w.cell? ⟨b,off+k*12+8,be⟩=AI (U O (ns.getD k cS).p.z)/\w.cell? ⟨b,off+k*12+9,be⟩=AI (U O (ns.getD k cS).p.h)/\w.cell? ⟨b,off+k*12+10,be⟩=AI (U O (ns.getD k cS).p.s)/\w.cell? ⟨b,off+k*12+11,be⟩=AI vw:=by
 obtain⟨vm,vr,vs,vg,vw,h1,h2⟩:=h k hk;exact⟨vm,vr,vs,vg,vw,h1,h2 0 (by omega),h2 1 (by omega),h2 2 (by omega),h2 3 (by omega),h2 4 (by omega),h2 5 (by omega),h2 6 (by omega),h2 7 (by omega),h2 8 (by omega),h2 9 (by omega),h2 10 (by omega),h2 11 (by omega)⟩
theorem Rp.aC{g:Nat}{w w1:World}(h:Rp g w w1)(L:List Value):Rp g w (aC g L 0 w1):=by
 obtain⟨h1,h2,h3⟩:=qt g L 0 w1;exact⟨h1.trans h.os,h2.trans h.tape,h3.trans h.output,by rw[fe];exact h.size,λk hk hg=>(aX hg L 0 w1).trans (h.block k hk hg)⟩
theorem nD{base n k:Nat}{T:TypeId}{w:World}{v:Value}{xs:List Value}(h:w.ownsRow base T k v n xs):Roomy v:=by
 rcases h.2 with⟨rfl,h0⟩|⟨g,c,cur,rfl,ev,hg,fG,dO,b9,bf⟩
 .unfold Roomy;exact Ic _
 .unfold Roomy;exact fG
theorem gu.mono{a b:Nat}{w:World}{p:Pk}{vm vs vg vw:Value}(h:gu b w p vm vs vg vw)(DX:a<=b):gu a w p vm vs vg vw:=⟨h.ms.mono DX,h.sv.mono DX,h.gw.mono DX,h.wh.mono DX⟩
theorem MO{l r:List UInt8}{p:Pk}(h:uM l=AI (p,r))(hl:l.length<=16777216):p.cU.size<=Il/\(∀m∈p.ms,m.name.size<=Il)/\(∀m∈p.sv,m.node.size<=Il/\m.bu.size<=Il/\m.name.size<=Il/\m.tag.size<=Il)/\(∀m∈p.gw,m.aD.size<=Il)/\(∀m∈p.wh,m.node.size<=Il):=by
 unfold uM at h;simp only[Iw,It,IP] at h;obtain⟨⟨x0,r1⟩,n0,⟨x1,r2⟩,n1,⟨x2,r3⟩,n2,⟨x3,r4⟩,n3,⟨x4,r5⟩,n4,⟨x5,r6⟩,n5,rfl,rfl⟩:=h;simp only at n0 n1 n2 n3 n4 n5 ⊢;have e0:=kB n0;have e1:=qp n1;have e2:=eA n2 (by omega);have e3:=Sv.eA n3 (by omega);have e4:=Gw.eA n4 (by omega);have e5:=Wh.eA n5 (by omega);refine⟨by unfold Il;omega,e2.1,e3.1,e4.1,e5.1⟩
theorem Wm{l r:List UInt8}{p:Pk}(h:uM l=AI (p,r))(hl:l.length<=16777216):p.sv.length+p.gw.length+p.wh.length<=16777216:=by
 have e:=Df h;have hS:∀m:Sv.aT,1<=(Sv.gH m).length:=λm=>by unfold Sv.gH mq fH;simp only[Ig,J9];omega
 have hG:∀m:Gw.bK,1<=(Gw.gH m).length:=λm=>by unfold Gw.gH mq fH;simp only[Ig,J9];omega
 have hW:∀m:Wh.bE,1<=(Wh.gH m).length:=λm=>by unfold Wh.gH mq fH;simp only[Ig,J9];omega
 have fl:∀{α:Type} (f:α->List UInt8),(∀m,1<=(f m).length)->∀L:List α,L.length<=(L.flatMap f).length:=λf hf L=>by
  induction L with
  |nil=>simp
  |cons m L ih=>rw[I0,Ig,Iy];have:=hf m;omega
 have h1:=fl Sv.gH hS p.sv;have h2:=fl Gw.gH hG p.gw;have h3:=fl Wh.gH hW p.wh;have h4:=congrArg List.length e;unfold Pk.B at h4;simp only[Ig] at h4;omega
theorem MP{B cs cp:Nat}{l:List UInt8}{p:Pk}{w:World}(hV:Rv B w)(hs:l.length<=16777216)(b9:w.cell? ⟨cs,0,be⟩=AI (Y (fC l)))(BH:w.heap[cp]?=AI (AT #[Y ⟨#[]⟩,Ia false,J be 0 0,J be 0 0,J be 0 0,J be 0 0] 53 (0,0)))(hn:yu l=AI p) :
 Calls AS 116 #[Ie (AI ⟨cs,0,be⟩),Ie (AI ⟨cp,0,be⟩)] w λe w'=>e=By (Ik #[])/\Rp cp w w'/\∃vm vs vg vw,w'.heap[cp]?=AI (AT #[Y p.cU,Ia p.whole,vm,vs,vg,vw] 53 (0,0))/\gu (w.heap.size+1) w' p vm vs vg vw:=by
 unfold yu at hn;obtain⟨⟨p',r⟩,hn,he⟩:=Iw.1 hn;simp only at he;split at he
 case isFalse=>cases he
 rename_i hre;obtain⟨rfl,Dc⟩:=hre;cases he
 have adI:=(BY.1 BH).1;obtain⟨W0,bJ,bM,eE,dG⟩:=bW w #[Y (fC l)] 160;have RA:kd w.heap.size l W0:=⟨ae dG 0,by simp[Ir,dG],by omega⟩;have Wn:Hid (Calls _ _ _ _ _):=GU (hV.below (bM.mono hV.le)) hV.le RA hs hn;have rN:Hid _:=eE;have Ey:Hid (∀W,Rp w.heap.size W0 W->W.heap[cp]?=AI (AT #[Y ⟨#[]⟩,Ia false,J be 0 0,J be 0 0,J be 0 0,J be 0 0] 53 (0,0))):=λW hW=>hW.kC (by omega) ((bM.block cp adI).trans BH);have MQ:Hid _:=MO hn hs;have HIL:Hid _:=Wm hn hs;have BI:Hid (Rp cp w W0):=Rp.cd bM (Ic _);have HPE:Hid _:=Dc;clear hV hs BH bM dG eE RA hn Dc;go_enter Tryz.func116,Tryz.ntmps116;go_wp2_with fail;rw[<- bJ];clear bJ b9;refine Wn.out.mono ?_;rintro e w1 ⟨vm,vs,vg,vw,rfl,hr,ho,hp⟩;obtain⟨Lz,hU⟩:=MQ.out;have hlen:=HIL.out;obtain⟨a2,l2,c2,rfl⟩:=bl ho.ms;obtain⟨a3,l3,c3,rfl⟩:=bl ho.sv;obtain⟨a4,l4,c4,rfl⟩:=bl ho.gw;obtain⟨a5,l5,c5,rfl⟩:=bl ho.wh;have jq:=Ey.out w1 hr;have mj:Rp cp w w1:=⟨hr.os.trans BI.out.os,hr.tape.trans BI.out.tape,hr.output.trans BI.out.output,Nat.le_trans BI.out.size hr.size,λk hk hkc=>(hr.block k (IN hk BI.out.size) (by omega)).trans (BI.out.block k hk hkc)⟩;obtain⟨w2,tn⟩:∃w2,w2=aC cp [Y p.cU,Ia p.whole,J a2 l2 c2,J a3 l3 c3,J a4 l4 c4,J a5 l5 c5] 0 w1:=⟨_,rfl⟩;have jz:w2.heap[cp]?=AI (AT #[Y p.cU,Ia p.whole,J a2 l2 c2,J a3 l3 c3,J a4 l4 c4,J a5 l5 c5] 53 (0,0)):=by rw[tn];exact o6 jq _ _ _ _ _ _
 have rh:Rp cp w w2:=by rw[tn];exact mj.aC _
 have sj:∀b,b≠cp->w2.heap[b]?=w1.heap[b]?:=λb hb=>by rw[tn];exact aX hb _ _ _
 have nF:w2.heap.size=w1.heap.size:=by rw[tn];exact fe _ _ _ _
 have fA:gu (w.heap.size+1) w2 p (J a2 l2 c2) (J a3 l3 c3) (J a4 l4 c4) (J a5 l5 c5):=(ho.mono (by have:=rN.out;omega)).fa (λb hb _=>sj b (by omega));have his:jY w2 p (J a2 l2 c2) (J a3 l3 c3) (J a4 l4 c4) (J a5 l5 c5):=⟨bD fA.ms hU.1,Sv.bD fA.sv hU.2.1,Gw.bD fA.gw hU.2.2.1,Wh.bD fA.wh hU.2.2.2,Lz,nD fA.ms⟩;have nN:Hid (Calls AS 62 #[Ij #[Y p.cU,Ia p.whole,J a2 l2 c2,J a3 l3 c3,J a4 l4 c4,J a5 l5 c5]] w2 λe w'=>e=By (U O 0)/\Below w2.heap.size w2 w'):=(lD p _ _ _ _ w2 his (.inr (by omega))).mono (λe w' h=>⟨by rw[<- HPE.out];exact h.1,h.2⟩);have d2:w2.cell? ⟨w.heap.size,0,be⟩=AI (Y ⟨#[]⟩):=(cell_of (sj _ (by omega)) 0).trans hp.c0;have F6:Hid (Rp cp w w2):=rh;have oV:Hid _:=jz;have gX:Hid (gu (w.heap.size+1) w2 p (J a2 l2 c2) (J a3 l3 c3) (J a4 l4 c4) (J a5 l5 c5)):=fA;have adJ:Hid (∀w3,Below w2.heap.size w2 w3->Rp cp w w3/\∃vm vs vg vw,w3.heap[cp]?=AI (AT #[Y p.cU,Ia p.whole,vm,vs,vg,vw] 53 (0,0))/\gu (w.heap.size+1) w3 p vm vs vg vw):=λw3 hb=>
  ⟨F6.out.trans (Rp.cd hb (Ic _)),_,_,_,_,(hb.block cp (BY.1 oV.out).1).trans oV.out,gX.out.fa (λb _ aN=>hb.block b aN)⟩
 obtain⟨b0,b1,b2,b3,b4,b5⟩:=jt jq;have z:=lF jq;obtain⟨f0,f1,f2,f3,f4,f5⟩:=jt jz;clear hr hp ho Wn MQ HIL Ey rN Lz hU hlen jq mj jz rh sj nF fA his F6 oV gX BI HPE;go_upto_region 2 with fail
 simp only[aC,IC,Jh] at tn;rw[<- tn];clear tn b0 b1 b2 b3 b4 b5 z;go_wp2_with fail;refine nN.out.mono ?_;rintro e w3 ⟨rfl,bV⟩;have Dd:Hid _:=adJ.out w3 bV;clear bV;go_wp2_with fail;refine(jo _ _).mono ?_;rintro e w4 ⟨rfl,GQ⟩;subst GQ;go_wp2_with fail;simp only[bodyPost,results,Tryz.results116];exact⟨trivial,Ik #[],by simp,rfl,Dd.out⟩
def tI(w:World)(p:Pk)(e:Ending)(w':World):Prop:=
 Below w.heap.size w w'/\∃vm vs vg vw,e=By (Ik #[Ij #[Y p.cU,Ia p.whole,vm,vs,vg,vw],U O 0])/\gu w.heap.size w' p vm vs vg vw
theorem Dh{B:Nat}{l:List UInt8}{p:Pk}{w:World}(hV:Rv B w)(hs:l.length<=16777216)(hn:yu l=AI p) :
 aF 69 #[Y (fC l)] w (tI w p):=by
 have hmf:∀(fn:Fn) (first cap:Array Value) (w:World),(Instr.makeFunc fn first cap).run AS w=.ok (.func fn first cap) w:=λ_ _ _ _=>rfl;have ef:=enters_of Tryz.func116 (by kernel_rfl) rfl;obtain⟨W0,bJ,bM,eE,k0,k1,k2⟩:=oe w #[Y (fC l)] #[Y ⟨#[]⟩,Ia false,J be 0 0,J be 0 0,J be 0 0,J be 0 0] #[Y ⟨#[]⟩,Ia false,J be 0 0,J be 0 0,J be 0 0,J be 0 0] 9 53 53;obtain⟨W1,cM,aB,uR,ke⟩:=bW W0 #[U O 0] 31;have fg:W1.heap.size=w.heap.size+4:=by omega
 have PK:Hid (aF _ _ _ _):=
  MP (hV.below ((bM.mono hV.le).trans (aB.mono (by have:=hV.le;omega)))) hs ((aB.cell (p:=⟨w.heap.size,0,be⟩) (by show w.heap.size<W0.heap.size;omega)).trans (ae k0 0)) ((aB.block _ (by omega)).trans k2) hn
 have HE:Hid (∀w',Rp (w.heap.size+2) W1 w'->w'.cell? ⟨W0.heap.size,0,be⟩=AI (U O 0)/\w'.frozen? ⟨W0.heap.size,0,be⟩=false/\W0.heap.size<w'.heap.size):=λw' hr=>by
  have e:=hr.kC (k:=W0.heap.size) (by omega) ke;exact⟨ae e 0,by simp[Ir,e],(BY.1 e).1⟩
 have mo:Hid (∀w',Rp (w.heap.size+2) W1 w'->w'.heap[w.heap.size+1]?=AI (AT #[Y ⟨#[]⟩,Ia false,J be 0 0,J be 0 0,J be 0 0,J be 0 0] 53 (0,0))):=λw' hr=>hr.kC (by omega) ((aB.block _ (by omega)).trans k1);have lM:Hid (∀w',Rp (w.heap.size+2) W1 w'->Below w.heap.size w w'):=λw' hr=>(bM.trans (aB.mono (by omega))).trans (hr.below (B:=w.heap.size) (by omega) (by omega));have rN:Hid _:=eE;have tv:Hid _:=fg;clear hV hs bM aB k0 k1 k2 ke eE fg uR hn;have fS:Hid (aF 119 #[.func (.func 116) #[] #[Ie (AI ⟨w.heap.size,0,be⟩),Ie (AI ⟨w.heap.size+2,0,be⟩)]] W0 λr w'=>r=By (U O 0)/\∃w1,(Rp (w.heap.size+2) W1 w1/\∃vm vs vg vw,w1.heap[w.heap.size+2]?=AI (AT #[Y p.cU,Ia p.whole,vm,vs,vg,vw] 53 (0,0))/\gu (W1.heap.size+1) w1 p vm vs vg vw)/\W0.heap.size<w1.heap.size/\w'=w1.setCell ⟨W0.heap.size,0,be⟩ (U O 0)):=
  AG _ _ W0 (λw1=>Rp (w.heap.size+2) W1 w1/\∃vm vs vg vw,w1.heap[w.heap.size+2]?=AI (AT #[Y p.cU,Ia p.whole,vm,vs,vg,vw] 53 (0,0))/\gu (W1.heap.size+1) w1 p vm vs vg vw) ef (by
   rw[<- cM];refine PK.out.mono ?_;rintro e w' ⟨rfl,hr,vm,vs,vg,vw,h1,h2⟩;exact⟨rfl,⟨hr,vm,vs,vg,vw,h1,h2⟩,HE.out w' hr⟩)
 clear PK cM;go_enter Tryz.func69,Tryz.ntmps69;go_wp2_with fail;rw[<- bJ];clear bJ;refine fS.out.mono ?_;rintro e w2 ⟨rfl,w1,⟨hr,vm,vs,vg,vw,h1,h2⟩,aW,tn⟩;obtain⟨a2,l2,c2,rfl⟩:=bl h2.ms;obtain⟨a3,l3,c3,rfl⟩:=bl h2.sv;obtain⟨a4,l4,c4,rfl⟩:=bl h2.gw;obtain⟨a5,l5,c5,rfl⟩:=bl h2.wh;have eo:∀k,k≠W0.heap.size->w2.heap[k]?=w1.heap[k]?:=λk hk=>by rw[tn];exact Below.heap_setCell _ _ _ k hk
 have jq:=(eo _ (by have:=rN.out;omega)).trans (mo.out w1 hr);have jz:=(eo _ (by have:=rN.out;omega)).trans h1;have fA:=h2.fa (λb hb _=>eo b (by have:=rN.out;have:=tv.out;omega));have AD:Below w.heap.size w w2:=by
  have h:=lM.out w1 hr;rw[tn];exact h.setCell (p:=⟨W0.heap.size,0,be⟩) (by have:=rN.out;show w.heap.size<=W0.heap.size;omega) _
 obtain⟨w3,PM⟩:∃w3,w3=aC (w.heap.size+1) [Y p.cU,Ia p.whole,J a2 l2 c2,J a3 l3 c3,J a4 l4 c4,J a5 l5 c5] 0 w2:=⟨_,rfl⟩;have jO:w3.heap[w.heap.size+1]?=AI (AT #[Y p.cU,Ia p.whole,J a2 l2 c2,J a3 l3 c3,J a4 l4 c4,J a5 l5 c5] 53 (0,0)):=by rw[PM];exact o6 jq _ _ _ _ _ _
 have dY:Hid (gu w.heap.size w3 p (J a2 l2 c2) (J a3 l3 c3) (J a4 l4 c4) (J a5 l5 c5)):=(fA.fa (λb hb _=>by rw[PM];exact aX (by have:=tv.out;omega) _ _ _)).mono (by have:=tv.out;omega);have cj:Hid (Below w.heap.size w w3):=by rw[PM];exact aQ (by omega) _ _ AD
 obtain⟨b0,b1,b2,b3,b4,b5⟩:=jt jq;have z:=lF jq;obtain⟨f0,f1,f2,f3,f4,f5⟩:=jt jz;obtain⟨g0,g1,g2,g3,g4,g5⟩:=jt jO;have gN:Hid (tI w p (By (Ik #[Ij #[Y p.cU,Ia p.whole,J a2 l2 c2,J a3 l3 c3,J a4 l4 c4,J a5 l5 c5],U O 0])) w3):=⟨cj.out,_,_,_,_,rfl,dY.out⟩;clear dY cj fS jq jz jO fA AD eo h1 h2 hr aW tn HE mo lM rN tv;generalize hRS:tI w p=Z at *;clear hRS;generalize p.cU=q0 at *;generalize p.whole=q1 at *;go_wp2_with fail;simp only[aC,IC,Jh] at PM;rw[<- PM];clear PM b0 b1 b2 b3 b4 b5 z f0 f1 f2 f3 f4 f5;exact IK (v:=Ik #[Ij #[Y q0,Ia q1,J a2 l2 c2,J a3 l3 c3,J a4 l4 c4,J a5 l5 c5],U O 0]) (by simp[results,Tryz.results69,go_sem,g0,g1,g2,g3,g4,g5]) rfl gN.out
theorem ma.up{B C:Nat}{w:World}(h:ma B w)(hC:B<=C):ma C w:=λw' hw=>h w' (hw.mono hC)
theorem Rv.up{B C:Nat}{w:World}(h:Rv B w)(hC:B<=C)(hl:C<=w.heap.size):Rv C w:=⟨h.Vu.up hC,h.er,IN h.b1 hC,IN h.b2 hC,hl⟩
theorem Rv.after{w w':World}(h:Rv w.heap.size w)(hb:Below w.heap.size w w'):Rv w'.heap.size w':=(h.below hb).up hb.size (Ic _)
end Go.Proofs.YtfidhgjmifendaaGreatDoor
namespace Go.Proofs.YtfidhgjmifendaaGreatDoor
open Go.RowKit Go.WideMaps Go.Maps
def mV(ns:List Nd):List ByteArray:=ns.map (·.name)
theorem iD(ns:List Nd)(k:Nat):(mV ns).getD k ByteArray.empty=(ns.getD k cS).name:=by
 by_cases h:k<ns.length
 .simp[mV,Ip,If h]
 .simp[mV,Ip,List.getElem?_eq_none (by omega:ns.length<=k),cS];rfl
theorem MR{D:DataW Unit}{ns:List Nd}(h:CD D (mV ns) ns.length)(hd:¬ gU ns):JB D<ns.length:=by
 rw[h.size];apply lv;apply Classical.byContradiction;intro hx;apply hd;intro i j iY hj e;exact hx ⟨i,j,iY,hj,by rw[iD,iD];exact e⟩
theorem MS{D:DataW Unit}{ns:List Nd}(h:CD D (mV ns) ns.length)(hd:gU ns):JB D=ns.length:=by
 rw[h.size];exact lz _ _ (λi j iY hj=>by rw[iD,iD];exact hd i j iY hj)
theorem tJ(ns:List Nd)(g:Nat)(v:Value)(w:World)(hv:xG w v ns)(hg:w.cell? ⟨g,0,be⟩=AI v)(BJ:ns.length<=6) :
 Calls AS 42 #[Ie (AI ⟨g,0,be⟩)] w λe w'=>e=By (U O (j8 ns))/\Below w.heap.size w w':=by
 have dn:=Ix w _ hg;obtain⟨pa,ca,rfl,ha⟩:=hv;have HA:Hid _:=ha;clear ha;generalize hN:ns.length=n at *;have HN:Hid _:=hN;clear hN;have GA:=ja;go_enter Tryz.func42,Tryz.ntmps42;go_wp2;go_loopw [20] (λi wr=>∃k:Nat,k<=n/\i=U O k/\Hid (∀j,j<k->(ns.getD j cS).e=0)/\Hid (∃D,wr.ownsMap AS 9 (plainElem (H:=Unit) AS 3) w.heap.size k D/\CD D (mV ns) k)/\Hid (Below w.heap.size w wr)) (λi _=>n-(intOf i).toNat)
 case atStart=>exact⟨0,II _,rfl,λj hj=>by omega,⟨_,World.ownsMap_made _ _ _ _,yH _⟩,(Ib _ _).alloc (Ic _) _⟩
 case round=>
  obtain⟨k,hk,rfl,HZ,HD,HB⟩:=hrel;obtain⟨D,HO,HC⟩:=HD.out;have HO:Hid (wr.ownsMap _ _ _ _ _ _):=HO;have HC:Hid _:=HC;clear HD;have LN:=(HB.out.cell (p:=⟨g,0,be⟩) dn).trans hg;by_cases aW:k<n
  .obtain⟨b,off,hp,hl,hr⟩:∃b off,pa=AI ⟨b,off,be⟩/\b<w.heap.size/\ve w b off ns:=by
    rcases HA.out with h|h
    .have:=HN.out;rw[h] at this;simp at this;omega
    .exact h
   subst hp;obtain⟨vm,vr,vs,vg,vw,LO,c0,c1,c2,c3,c4,c5,c6,c7,c8,c9,c10,c11⟩:=(hr.below HB.out hl).at (by rw[HN.out];exact aW);have HX:Hid ((ns.getD k cS).e≠0->j8 ns=(ns.getD k cS).e):=λh=>SB (by rw[HN.out];exact aW) HZ.out h;have lB:Hid ((ns.getD k cS).e=0->∀j,j<k+1->(ns.getD j cS).e=0):=λh j hj=>by
    by_cases e:j=k
    .subst e;exact h
    .exact HZ.out j (by omega)
   have HG:Hid (∀(c:Int),D.atKey (kS (ns.getD k cS).name) (.lit (.int O 0))=.lit (.int O c)->0<=c/\c<=k/\CD (D.put (kS (ns.getD k cS).name) (.lit (.int O (c+1)))) (mV ns) (k+1)):=λc hc=>by
    have h:=yI HC.out (c:=c) (by rw[iD];exact hc);rw[iD] at h;exact h
   have cF:=HB.out.size;generalize(ns.getD k cS)=nk at *;have cV:=LO.name;have nN:Hid (∀W,Below wr.heap.size wr W->Calls _ _ _ _ _):=λW hW=>ov nk vm vr vs vg vw W (LO.below hW);obtain⟨⟨am,cm,nJ,_,_⟩,⟨ar,cr,uX,_,_⟩,⟨ax,cx,tK,_,_⟩,⟨ag,cg,zC,_,_⟩,⟨aw,cw,LH,_,_⟩,_,_⟩:=LO;subst nJ uX tK zC LH;generalize aM:nk.e=ne at *;clear aM;obtain⟨nm,ct,ms,rs,sv,gw,⟨px,py,pz,ph,pq⟩,wh⟩:=nk;simp only[dt] at c0 c1 c2 c3 c4 c5 c6 c7 c8 c9 c10 c11 cV HG nN;have yL:=keyOf_string_mk Tryz.underlying9 cV;generalize ms.length=VI at *;generalize rs.length=VJ at *;generalize sv.length=VK at *;generalize gw.length=VL at *;generalize wh.length=VM at *;clear hr HZ;have fQ:(k:Int)<n:=by omega
   obtain⟨W1,cM⟩:∃W1,W1=wr.alloc (AT #[Y nm,Y ct,J am VI cm,J ar VJ cr,J ax VK cx,J ag VL cg,U O px,U O py,U O pz,U O ph,U O pq,J aw VM cw] 42):=⟨_,rfl⟩;have aB:Below wr.heap.size wr W1:=by rw[cM];exact(Ib _ _).alloc (Ic _) _
   have iM:Hid (W1.heap[wr.heap.size]?=AI (AT #[Y nm,Y ct,J am VI cm,J ar VJ cr,J ax VK cx,J ag VL cg,U O px,U O py,U O pz,U O ph,U O pq,J aw VM cw] 42 (0,0))):=by rw[cM];exact Ih wr _
   have aV:Hid _:=aB;clear aB;go_upto_region 5 with fail
   rw[<- cM];clear cM c0 c1 c2 c3 c4 c5 c6 c7 c8 c9 c10 c11;obtain⟨d0,d1,d2,d3,d4,d5,d6,d7,d8,d9,d10,d11⟩:=bA iM.out;go_wp2_with fail;refine(nN.out W1 aV.out).mono ?_;rintro e w1 ⟨rfl,aB⟩;have SC:=aV.out.trans (aB.mono aV.out.size);have lC:Hid (w1.ownsMap _ _ _ _ _ _):=sG HO.out SC;have MT:Hid _:=HB.out.trans (SC.mono cF);have hm0:=ae ((aB.block _ (BY.1 iM.out).1).trans iM.out) 0;clear aB SC d0 d1 d2 d3 d4 d5 d6 d7 d8 d9 d10 d11 HB HO nN iM aV LN;by_cases he:ne=0
   .have kJ:(ne !=0)=false:=by simpa using he
    have qg:Hid _:=lB.out he;clear HX lB he;obtain⟨c,jM,cv,_⟩:=lC.out.lookup_int DM Jz ID (AK _) yL;obtain⟨g0,g1,g2⟩:=HG.out c cv;have wK:Hid _:=g2;clear g2 cv HG;go_wp2_with (first
     |(at_mapUpdate;refine wpList_mapUpdate_own _ rfl _ _ _ 125 rfl 9 3 DM Jz _ w.heap.size k _ rfl lC.out (by unfold Il;omega) _ _ _ rfl rfl yL _ [] (plainElem_int ID (WalkArith.wf_i64 (by omega))) ?_)
     |fail)
    intro w2 yM sH;have R1:Hid (∃D,w2.ownsMap AS 9 (plainElem (H:=Unit) AS 3) w.heap.size (k+1) D/\CD D (mV ns) (k+1)):=⟨_,yM,wK.out⟩;have R2:Hid _:=MT.out.grown sH MT.out.size (λj hj=>by cases hj;exact Ic _);clear yM sH lC MT;go_wp2_with fail;go_roundw
    case rel=>exact⟨k+1,by omega,by go_num,qg,R1,R2⟩
    case measure=>simp[intOf];omega
   .have kJ:(ne !=0)=true:=by simpa using he
    have HR:Hid _:=HX.out he;clear he HX lB;go_wp2_with fail;go_ret;exact⟨ai HR.out.symm,MT.out⟩
  .have fQ:k=n:=by omega
   subst fQ;have iL:Hid (JB D<k↔¬ gU ns):=by
    have h1:=HC.out;rw[<- HN.out] at h1 ⊢;exact⟨λh hd=>by rw[MS h1 hd] at h;omega,λhd=>MR h1 hd⟩
   have wL:Hid (¬ gU ns->j8 ns=6):=λhd=>BG (λj hj=>HZ.out j (by rw[<- HN.out];exact hj)) hd;have kz:Hid (gU ns->j8 ns=0):=λhd=>Dg (λj hj=>HZ.out j (by rw[<- HN.out];exact hj)) hd;by_cases hd:gU ns
   .have HE:Hid _:=kz.out hd
    have hs:=decide_eq_false (λh=>(iL.out.1 h) hd);have gY:¬ JB D<k:=λh=>(iL.out.1 h) hd;have Ks:∀q,(Builtin.len_ #[125] 3 #[.map (AI w.heap.size)]).run AS (wr.drewN q)=.ok (U O (JB D)) (wr.drewN q):=λq=>World.ownsMap.len (w:=wr.drewN q) HO.out Jz 3;clear wL kz hd iL HZ;go_wp2_with fail;go_quiet (fail)
    go_wp2_with fail;go_ret;exact⟨ai HE.out.symm,I8 HB.out _⟩
   .have HE:Hid _:=wL.out hd
    have hs:=decide_eq_true (iL.out.2 hd);have gY:=iL.out.2 hd;have Ks:∀q,(Builtin.len_ #[125] 3 #[.map (AI w.heap.size)]).run AS (wr.drewN q)=.ok (U O (JB D)) (wr.drewN q):=λq=>World.ownsMap.len (w:=wr.drewN q) HO.out Jz 3;clear wL kz hd iL HZ;go_wp2_with fail;go_quiet (fail)
    go_wp2_with fail;go_ret;exact⟨ai HE.out.symm,I8 HB.out _⟩
theorem lV(g n:Nat)(a:Option Addr)(cap:Nat)(x:Int)(w:World)(hg:w.cell? ⟨g,0,be⟩=AI (J a n cap))(hn:n<=6) :
 Calls AS 68 #[Ie (AI ⟨g,0,be⟩),U O x] w λe w'=>e=By (Ia (within x 0 ((n:Int)-1)))/\Below w.heap.size w w':=by
 have h1:IntKind.i64.wrap ((n:Int)-1)=(n:Int)-1:=by rw[IntKind.wrap_i64];omega
 go_enter Tryz.func68,Tryz.ntmps68;go_wp2_with (go_at_call 54;refine(cy _ _ _ _).mono ?_;rintro e w' ⟨rfl,rfl⟩);go_ret;exact⟨rfl,Ib _ _⟩
theorem qK(ls:List Lt.fb)(n g:Nat)(a:Option Addr)(cap:Nat)(v:Value)(w:World)(hV:Rv w.heap.size w)(hv:Lt.Sl w v ls)(hg:w.cell? ⟨g,0,be⟩=AI (J a n cap))(cK:w.cell? ⟨g,1,be⟩=AI v)(BJ:n<=6)(adK:ls.length<=20)(hts:∀l∈ls,l.text.size<=16777216)(h0:nK (vd n) ls=0) :
 Calls AS 43 #[Ie (AI ⟨g,0,be⟩)] w λe w'=>e=By (U O 0)/\Below w.heap.size w w':=by
 have dn:=Ix w _ hg;obtain⟨pa,ca,rfl,_,ha⟩:=hv;have HA:Hid _:=ha;have HTS:Hid _:=hts;have HV:Hid _:=hV;have H0:Hid _:=h0;clear ha hts hV h0;generalize hN:ls.length=m at *;have HN:Hid _:=hN;clear hN;go_enter Tryz.func43,Tryz.ntmps43;go_wp2_with fail;go_loopw [13] (λi wr=>∃k:Nat,k<=m/\i=U O k/\Hid (∀j,j<k->vd n (ls.getD j Lt.dm)=0)/\Hid (Below w.heap.size w wr)) (λi _=>m-(intOf i).toNat)
 case atStart=>exact⟨0,II _,rfl,λj hj=>by omega,Ib _ _⟩
 case round=>
  obtain⟨k,hk,rfl,HZ,HB⟩:=hrel;have cF:=HB.out.size;by_cases aW:k<m
  .obtain⟨b,off,hp,hl,hr⟩:∃b off,pa=AI ⟨b,off,be⟩/\b<w.heap.size/\Lt.Row w b off ls:=by
    rcases HA.out with h|h
    .have:=HN.out;rw[h] at this;simp at this;omega
    .exact h
   subst hp;obtain⟨c0,c1⟩:=(hr.later HB.out hl) k (by rw[HN.out];exact aW);have hle:vd n (ls.getD k Lt.dm)=0:=Decidable.byContradiction λh=>h ((xF _ Lt.dm ls k (by rw[HN.out];exact aW) HZ.out h).symm.trans H0.out);have qg:Hid (∀j,j<k+1->vd n (ls.getD j Lt.dm)=0):=λj hj=>by
    by_cases e:j=k
    .subst e;exact hle
    .exact HZ.out j (by omega)
   have hkt:(ls.getD k Lt.dm).text.size<=16777216:=by
    have MU:k<ls.length:=by rw[HN.out];exact aW
    apply HTS.out;rw[Ip,If MU];exact List.getElem_mem MU
   generalize ls.getD k Lt.dm=lk at *;obtain⟨to,tx⟩:=lk;simp only at c0 c1 hkt;have hle:(if within to 0 ((n:Int)-1)=true then(if(yu tx.data.toList).isSome=true then 0 else 1) else 3)=(0:Int):=hle;have hwi:within to 0 ((n:Int)-1)=true:=Decidable.byContradiction λh=>by rw[if_neg h] at hle;cases hle
   rw[if_pos hwi] at hle;obtain⟨p,hro⟩:∃p,yu tx.data.toList=AI p:=by
    cases hq:yu tx.data.toList with
    |some p=>exact⟨p,rfl⟩
    |none=>rw[hq] at hle;simp at hle
   obtain⟨W1,cM⟩:∃W1,W1=wr.alloc (AT #[U O to,Y tx] 102):=⟨_,rfl⟩;have aB:Below wr.heap.size wr W1:=by rw[cM];exact(Ib _ _).alloc (Ic _) _
   have aV:Hid _:=HB.out.trans (aB.mono cF);have iM:Hid (W1.heap[wr.heap.size]?=AI (AT #[U O to,Y tx] 102 (0,0))):=by rw[cM];exact Ih wr _
   have ml:Hid (Calls _ _ _ _ _):=hwi▸lV g n a cap to W1 ((aV.out.cell (p:=⟨g,0,be⟩) dn).trans hg) BJ;have PK:Hid (∀W,Below W1.heap.size W1 W->Calls _ _ _ _ _):=λW hW=>Dh (l:=tx.data.toList) ((HV.out.after aV.out).after hW) hkt hro;have d0:=ae iM.out 0;have d1:=ae iM.out 1;clear hr HZ aB hle hwi hro;go_upto_region 4 with fail
   rw[<- cM];clear cM c0 c1;go_wp2_with fail;refine ml.out.mono ?_;rintro e w2 ⟨rfl,aJ⟩;have bp:Hid _:=aJ;have d2:=(aJ.cell (p:=⟨wr.heap.size,1,be⟩) (BY.1 iM.out).1).trans d1;clear aJ ml d0 d1;go_wp2_with fail;refine(PK.out w2 bp.out).mono ?_;rintro e w3 ⟨bV,ym,ys,yg,yw,rfl,ho⟩;obtain⟨a2,l2,c2,rfl⟩:=bl ho.ms;obtain⟨a3,l3,c3,rfl⟩:=bl ho.sv;obtain⟨a4,l4,c4,rfl⟩:=bl ho.gw;obtain⟨a5,l5,c5,rfl⟩:=bl ho.wh;have cj:Hid _:=aV.out.trans ((bp.out.trans (bV.mono bp.out.size)).mono aV.out.size);have Sx:Hid _:=cj.out.size;clear bV ho PK;go_wp2_with fail;go_roundw
   case rel=>exact⟨k+1,by omega,by go_num,qg,cj.out.alloc Sx.out _⟩
   case measure=>simp[intOf];omega
  .have hd:decide ((k:Int)<(m:Int))=false:=by simp;omega
   clear HZ;go_wp2_with fail;go_ret;exact⟨rfl,HB.out⟩
end Go.Proofs.YtfidhgjmifendaaGreatDoor
