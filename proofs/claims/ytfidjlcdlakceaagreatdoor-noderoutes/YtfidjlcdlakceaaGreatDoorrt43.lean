import Derived.Test.YtfidjlcdlakceaaGreatDoorrt29
import Derived.Test.YtfidjlcdlakceaaGreatDoorrt36
import Derived.Shelf.SlSortFunc.HeapSort
set_option maxHeartbeats 6400000
set_option maxRecDepth 100000
open Go.Value renaming int→O,tuple→Il,slice→U,pointer→Ig
open Go.IntKind renaming i64→J
open Go.Ending renaming returned→sh
open Go.Proofs.Tryz renaming prog→be,func219→Qn,ntmps219→Qa,isAgg3→JX,sizeOf3→JI
open Option renaming none→Y,some→Z
open Go renaming wp_loop_rounds→JQ,rounds_succ→Jx,wpList_append_own→Ja
open Go.World renaming new_ne→Jo,block_lt_of_cell?→IE,cell?_setCell_far→Ul
open List renaming range→JS,getD→Io,length_take→IA,pairwise_iff_getElem→Ju,foldl_cons→Uc,length_set→Jc,getElem?_set_ne→OD,getElem?_set_self→QJ,getElem?_eq_none→IK,length_nil→Ou
open Go.RowKit.Below renaming refl→Ia
open Nat renaming le_refl→By,zero_le→IF,zero_add→I3
open Go.World.ownsRow renaming frozenAt→Jw,stored→JW,lt→IY,cellAt→OV
open Array renaming getElem?_eq_some_iff→Ib,extract_size→Uk
open Go.Proofs renaming cell?_sortWorld_other→Ql,sortWorld→Q4
open Go.Sort renaming ahead→Jq
namespace Go.Proofs.YtfidjlcdlakceaaGreatDoor
open Go.RowKit
theorem FQ(m:Int)(w:World)(h:within m 0 20=true) :
 Calls be 106 #[O J m] w λe w'=>e=sh (Il #[O J (3*(Lib.bitLen m.toNat:Nat)),O J 0])/\w'=w:=by
 have hm:0<=m/\m<=20:=by simp[within] at h;omega
 have hl:(Lib.bitLen m.toNat:Int)<=64:=by have:=Lib.bitLen_le m.toNat 64 (by omega) (by omega);omega
 go_enter Tryz.func106,Tryz.ntmps106;go_wp2_with (first|(go_at_call 70;refine(bw _ _ _ _).mono ?_;rintro e w' ⟨rfl,rfl⟩;rw[h])|(go_at_call 159;refine(Tryz.bits_Len _ _ (by omega) (by omega)).mono ?_;rintro e w' ⟨rfl,rfl⟩));go_ret2;exact⟨rfl,rfl⟩
def tH(a b:Int):Int:=if a<b then -1 else if b<a then 1 else 0
theorem xj(a b:Int)(w:World) :
 Calls be 220 #[O J a,O J b] w λe w'=>e=sh (O J (tH a b))/\w'=w:=by
 go_enter Tryz.func220,Tryz.ntmps220;go_wp2;all_goals
  go_ret;exact⟨aj (by unfold tH;(repeat' split)<;>omega),rfl⟩
def SR(a b:Int):Int:=if a=0 then b else a
theorem BQ(a b:Int)(g:Nat)(c:Nat)(w:World)(h0:w.cell? ⟨g,0,Y⟩=Z (O J a))(h1:w.cell? ⟨g,1,Y⟩=Z (O J b)) :
 Calls be 219 #[U (Z ⟨g,0,Y⟩) 2 c] w λe w'=>e=sh (O J (SR a b))/\w'=w:=by
 by_cases ha:a=0
 .subst ha
  by_cases hb:b=0
  .subst hb
   go_enter Qn,Qa;go_wp2_with fail;refine JQ 3 ?_;rw[Jx];go_wp2_with fail;rw[Jx];go_wp2_with fail;rw[Jx];go_wp2_with fail;go_ret;exact⟨rfl,rfl⟩
  .have Hi:(b !=0)=true:=by simpa using hb
   go_enter Qn,Qa;go_wp2_with fail;refine JQ 3 ?_;rw[Jx];go_wp2_with fail;rw[Jx];go_wp2_with fail;go_ret;exact⟨rfl,rfl⟩
 .have ha':(a !=0)=true:=by simpa using ha
  go_enter Qn,Qa;go_wp2_with fail;refine JQ 3 ?_;rw[Jx];go_wp2_with fail;go_ret;exact⟨aj (by unfold SR;rw[if_neg ha]),rfl⟩
def cfR(rs:List bu)(i k:Nat):Int:=SR (tH (rs.getD i dr).told (rs.getD k dr).told) (tH k i)
theorem FR(ti tk:Int)(lb b off n ca i k:Nat)(w:World)(hl:w.cell? ⟨lb,0,Y⟩=Z (U (Z ⟨b,off,Y⟩) n ca))(hi:i<n)(hk:k<n)(hti:w.cell? ⟨b,off+i*6+5,Y⟩=Z (O J ti))(Wq:w.cell? ⟨b,off+k*6+5,Y⟩=Z (O J tk)) :
 Calls be 218 #[O J i,O J k,Ig (Z ⟨lb,0,Y⟩)] w λe w'=>e=sh (O J (SR (tH ti tk) (tH k i)))/\w'=(w.alloc (.cells #[O J (tH ti tk),O J (tH k i)] 3)).drew:=by
 have eP:(0:Int)<=(i:Int):=Int.natCast_nonneg _;have TN:(i:Int)<(n:Int):=by omega
 have hk0:(0:Int)<=(k:Int):=Int.natCast_nonneg _;have hk1:(k:Int)<(n:Int):=by omega
 have h1:=Jo w _ hl;have h2:=Jo w _ hti;have h3:=Jo w _ Wq;go_enter Tryz.func218,Tryz.ntmps218;go_wp2_with fail;go_region_held3 (λw'=>w'.cell? ⟨lb,0,Y⟩=Z (U (Z ⟨b,off,Y⟩) n ca)/\w'.cell? ⟨b,off+i*6+5,Y⟩=Z (O J ti)/\w'.cell? ⟨b,off+k*6+5,Y⟩=Z (O J tk)) (go_keep) (first|(go_at_call 220;refine(xj _ _ _).mono ?_;rintro e w' ⟨rfl,rfl⟩)|(go_at_call 219;refine(BQ (tH ti tk) (tH k i) _ _ _ (cC rfl) (cC rfl)).mono ?_;rintro e w' ⟨rfl,rfl⟩))
 go_wp2_with fail;go_ret;exact⟨rfl,rfl⟩
structure ie(rs:List bu)(ord:List Nat):Prop where
 perm:ord.Perm (JS rs.length)
 less:∀i j,i<j->j<ord.length->cfR rs (ord.getD i 0) (ord.getD j 0)<0
theorem ie.len{rs:List bu}{ord:List Nat}(h:ie rs ord):ord.length=rs.length:=by rw[h.perm.length_eq];simp
theorem ie.bd{rs:List bu}{ord:List Nat}(h:ie rs ord):∀x∈ord,x<rs.length:=λx hx=>by simpa using h.perm.mem_iff.1 hx
theorem ie.nodup{rs:List bu}{ord:List Nat}(h:ie rs ord):ord.Nodup:=h.perm.nodup_iff.2 List.nodup_range
theorem oC{ord:List Nat}{j:Nat}(h:j<ord.length):ord.getD j 0=ord[j]:=by simp[Io,List.getElem?_eq_getElem h]
theorem ie.lt{rs:List bu}{ord:List Nat}(h:ie rs ord){j:Nat}(hj:j<rs.length):ord.getD j 0<rs.length:=by
 have gd:j<ord.length:=by rw[h.len];exact hj
 rw[oC gd];exact h.bd _ (List.getElem_mem gd)
theorem ie.fresh{rs:List bu}{ord:List Nat}(h:ie rs ord){j:Nat}(hj:j<rs.length):ord.getD j 0 ∉ ord.take j:=by
 have gd:j<ord.length:=by rw[h.len];exact hj
 rw[oC gd];intro hm;obtain⟨i,hi,e⟩:=List.getElem_of_mem hm;rw[IA] at hi;rw[List.getElem_take] at e;exact Ju.1 h.nodup i j (by omega) gd (by omega) e
def gE(l:List bu)(i:Nat):List bu:=l.set i ⟨(l.getD i dr).m,(l.getD i dr).told+1⟩
def bump(rs:List bu)(ord:List Nat)(k:Nat):List bu:=(ord.take k).foldl gE rs
def gh(rs:List bu)(ord:List Nat)(k:Nat):List Mem:=(ord.take k).map (λi=>(rs.getD i dr).m)
theorem FT(rs:List bu)(ord:List Nat):bump rs ord 0=rs:=by simp[bump]
theorem BR(rs:List bu)(ord:List Nat):gh rs ord 0=[]:=by simp[gh]
theorem zx{ord:List Nat}{k:Nat}(h:k<ord.length):ord.take (k+1)=ord.take k++[ord.getD k 0]:=by
 rw[List.take_succ_eq_append_getElem h,oC h]
theorem FU{rs:List bu}{ord:List Nat}{k:Nat}(h:k<ord.length):bump rs ord (k+1)=gE (bump rs ord k) (ord.getD k 0):=by
 unfold bump;rw[zx h,List.foldl_append];rfl
theorem BS{rs:List bu}{ord:List Nat}{k:Nat}(h:k<ord.length):gh rs ord (k+1)=gh rs ord k++[(rs.getD (ord.getD k 0) dr).m]:=by
 unfold gh;rw[zx h,List.map_append];rfl
theorem vT:∀(is:List Nat) (l:List bu),(is.foldl gE l).length=l.length
 |[],_=>rfl
 |i::r,l=>by rw[Uc,vT r,gE,Jc]
theorem tI(rs:List bu)(ord:List Nat)(k:Nat):(bump rs ord k).length=rs.length:=vT _ _
theorem qA:∀(is:List Nat) (l:List bu) (j:Nat),j ∉ is->(is.foldl gE l).getD j dr=l.getD j dr
 |[],_,_,_=>rfl
 |i::r,l,j,h=>by
  simp only[List.mem_cons,not_or] at h;rw[Uc,qA r _ j h.2,gE];simp[Io,OD (Ne.symm h.1)]
theorem nD{rs:List bu}{ord:List Nat}(h:ie rs ord){k:Nat}(hk:k<rs.length):(bump rs ord k).getD (ord.getD k 0) dr=rs.getD (ord.getD k 0) dr:=
 qA _ _ _ (h.fresh hk)
def pR(rs:List bu)(v:Value):Prop:=∀w,kB w v rs->Calls be 160 #[v] w λe w'=>∃(g c:Nat) (ord:List Nat),e=sh (U (Z ⟨g,0,Y⟩) rs.length c)/\ie rs ord/\(∀j,j<rs.length->w'.cell? ⟨g,j,Y⟩=Z (O J (ord.getD j 0:Nat)))/\rs.length<=c/\w.heap.size<=g/\Below w.heap.size w w'
theorem Ml{rs:List bu}{p:Nat}(hp:p<rs.length)(t:Int):(ez rs).set (p*6+5) (O J t)=ez (rs.set p ⟨(rs.getD p dr).m,t⟩):=by
 apply List.ext_getElem?;intro k;by_cases hk:k<rs.length*6
 .have h2:=kl (rs.set p ⟨(rs.getD p dr).m,t⟩) (k/6) (by rw[Jc];omega) (k%6) (by omega)
  rw[show k/6*6+k%6=k by omega] at h2;have h4:=kl rs (k/6) (by omega) (k%6) (by omega);rw[show k/6*6+k%6=k by omega] at h4;rw[h2];by_cases jZ:k/6=p
  .rw[show(rs.set p ⟨(rs.getD p dr).m,t⟩).getD (k/6) dr=⟨(rs.getD p dr).m,t⟩ by rw[jZ];simp[Io,QJ hp]]
   rw[jZ] at h4;by_cases h5:k%6=5
   .rw[show p*6+5=k by omega,QJ (by rw[dy];omega),h5]
    rfl
   .rw[OD (by omega),h4]
    have h6:k%6<5:=by omega
    generalize k%6=q at h6
    match q,h6 with
    |0,_=>rfl
    |1,_=>rfl
    |2,_=>rfl
    |3,_=>rfl
    |4,_=>rfl
  .rw[show(rs.set p ⟨(rs.getD p dr).m,t⟩).getD (k/6) dr=rs.getD (k/6) dr by simp[Io,OD (Ne.symm jZ)],OD (by omega),h4]
 .rw[IK (by rw[Jc,dy];omega),IK (by rw[dy,Jc];omega)]
theorem FV{n a b:Int}(h:within n a b=true):a<=n/\n<=b:=by simpa[within] using h
theorem FW{base:Nat}{w:World}{v:Value}{L:List Mem}{m:Mem}(h:w.ownsRow base 70 5 v (L.length+1) (fl L++m.cs)):Own base w v (L++[m]):=by
 have e:fl (L++[m])=fl L++m.cs:=by rw[eA,bJ];simp[fl]
 show w.ownsRow base 70 5 v (L++[m]).length (fl (L++[m]));rw[e,List.length_append];exact h
theorem Own.slice{base:Nat}{w:World}{v:Value}{ms:List Mem}(h:Own base w v ms):∃a c,v=U a ms.length c:=by
 rcases h.2 with⟨rfl,h0⟩|⟨g,c,cur,rfl,_⟩
 .exact⟨Y,0,by rw[h0]⟩
 .exact⟨_,c,rfl⟩
theorem FX(rs:List bu)(v:Value)(most times:Int)(w:World)(hv:kB w v rs)(h0:cI rs=0)(hm:within most 1 20=true)(ht:within times 1 100=true)(mG:0<rs.length)(hT:pR rs v) :
 Calls be 107 #[v,O J most,O J times] w λe w'=>∃(v1 v2:Value) (ord:List Nat),e=sh (Il #[v1,v2,O J 0])/\ie rs ord/\Own w.heap.size w' v1 (gh rs ord (min most.toNat rs.length))/\bX w.heap.size w' v2 ((bump rs ord (min most.toNat rs.length)).filter (dW times))/\Below w.heap.size w w':=by
 obtain⟨j0,MZ,hk0,Wj,NK⟩:=info_parts Tryz.oX;have HV:Hid (kB w v rs):=hv;have HTT:Hid (pR rs v):=hT;have mW:1<=most/\most<=20:=by simp[within] at hm;omega
 obtain⟨mW,MS⟩:=mW;obtain⟨nW,_,zy,_⟩:=gv h0;have Rg:Hid (fo rs):=zy;have iO:=λ(w:World) (h:kB w v rs)=>fu rs v w h;rw[h0] at iO;clear h0 hT zy;obtain⟨pa,ca,rfl,_,_⟩:=hv;generalize hN:rs.length=n at *;have HN:Hid _:=hN;clear hN;have kO:Below w.heap.size w (w.alloc (.cells #[O J times] 3)):=(Ia _ _).alloc (By _) _;go_enter Tryz.func107,Tryz.ntmps107;go_wp2_with fail;refine(iO _ (HV.out.below kO)).mono ?_;rintro e w1 ⟨rfl,an⟩;have c1:w1.cell? ⟨w.heap.size,0,Y⟩=Z (O J times):=by
  rw[an.cell (p:=⟨w.heap.size,0,Y⟩) (by simp)];exact cC rfl
 have aK:Hid _:=kO.trans (an.mono (by simp));have cP:w.heap.size<w1.heap.size:=by have:=an.size;simp at this;omega
 clear an kO iO;go_wp2_with (go_at_call 70;refine(bw _ _ _ _).mono ?_;rintro e w' ⟨rfl,rfl⟩;first|rw[hm]|rw[ht]);refine(fA rs _ _ (HV.out.below aK.out) (by rw[HN.out];omega)).mono ?_;rintro e w3 ⟨v3,rfl,nu,bn⟩;have gI:Hid (bX _ _ _ _):=nu.base cP;have c3:w3.cell? ⟨w.heap.size,0,Y⟩=Z (O J times):=by
  rw[bn.cell (p:=⟨w.heap.size,0,Y⟩) (by simp only;omega)];exact c1
 have cT:Hid _:=aK.out.trans (bn.mono aK.out.size);have mB:w.heap.size<w3.heap.size:=by have:=bn.size;omega
 clear bn nu c1;go_wp2_with fail;refine(HTT.out _ (HV.out.below cT.out)).mono ?_;rintro e w4 ⟨gt,ct,ord,rfl,abq,Cq,hcc,amP,e9⟩;have uK:Hid _:=abq;have R0:Hid _:=Cq;have fb:Hid (Below w.heap.size w w4):=cT.out.trans (e9.mono cT.out.size);have C4:Hid (w4.cell? ⟨w.heap.size,0,Y⟩=Z (O J times)):=by
  have h:=e9.cell (p:=⟨w.heap.size,0,Y⟩) (by simp only;omega);exact h.trans c3
 have qY:Hid (bX _ _ _ _):=gI.out.below e9;have PK:Hid (∀k,v3.ownBlock=Z k->k<w3.heap.size):=λk hk=>(gI.out.lt k hk).2;have iu:=e9.size;clear e9 c3 gI Cq abq;obtain⟨g,c,Fq⟩:∃g c,v3=U (Z ⟨g,0,Y⟩) n c:=by
  rcases qY.out.2 with⟨_,h0⟩|⟨g,c,cur,h,_⟩
  .have:=HN.out;omega
  .exact⟨g,c,by rw[h,HN.out]⟩
 subst Fq;obtain⟨oU,hgh⟩:=qY.out.lt g rfl;have xJ:=PK.out g rfl;rw[HN.out] at hcc ⊢;have HGT:Hid _:=IE w4 ⟨gt,0,Y⟩ (R0.out 0 (by rw[HN.out];exact mG));obtain⟨q,hq⟩:∃q:Nat,q=min most.toNat n:=⟨_,rfl⟩;have agU:min most (n:Int)=(q:Int):=by omega
 have TA:q<=n:=by omega
 go_wp2_with fail;go_loopw [11,37] (λo i wr=>∃k:Nat,k<=q/\i=O J k/\Hid (Own w4.heap.size wr o (gh rs ord k))/\Hid (bX (w.heap.size+1) wr (U (Z ⟨g,0,Y⟩) n c) (bump rs ord k))/\Hid (wr.cell? ⟨w.heap.size,0,Y⟩=Z (O J times))/\Hid (∀j,j<rs.length->wr.cell? ⟨gt,j,Y⟩=Z (O J (ord.getD j 0:Nat)))/\Hid (Below w.heap.size w wr)/\w4.heap.size<=wr.heap.size) (λ_ i _=>q-(intOf i).toNat)
 case atStart=>exact⟨0,IF _,rfl,(by rw[BR];exact bz _ _),(by rw[FT];exact qY.out),C4,R0,fb,By _⟩
 case round=>
  obtain⟨k,hk,rfl,FY,Wf,HCC,Wr,HB,bb⟩:=hrel;by_cases aB:k<q
  .have gj:k<rs.length:=by rw[HN.out];omega
   have oc:=Wr.out k gj;have cG:ord.getD k 0<n:=by have:=uK.out.lt gj;rwa [HN.out] at this
   have aL:(bump rs ord k).length=n:=by rw[tI];exact HN.out
   obtain⟨d0,d1,d2,d3,d4,d5⟩:=oy Wf.out (ord.getD k 0) (by rw[aL];exact cG);rw[nD uK.out gj] at d0 d1 d2 d3 d4 d5;have hRO:wr.ownsRow (w.heap.size+1) 95 6 (U (Z ⟨g,0,Y⟩) n c) n (ez (bump rs ord k)):=by
    have h2:wr.ownsRow (w.heap.size+1) 95 6 (U (Z ⟨g,0,Y⟩) n c) (bump rs ord k).length (ez (bump rs ord k)):=Wf.out;rw[aL] at h2;exact h2
   have iz:∀o,wr.frozen? ⟨g,o,Y⟩=false:=λo=>Jw hRO o;have zy:=Rg.out _ (uK.out.lt gj);obtain⟨ht3,ht4⟩:=FV zy;have Ws:Hid (bX (w.heap.size+1) (wr.setCell ⟨g,ord.getD k 0*6+5,Y⟩ (O J ((rs.getD (ord.getD k 0) dr).told+1))) (U (Z ⟨g,0,Y⟩) n c) (bump rs ord (k+1))):=by
    have h3:=(JW hRO (ord.getD k 0*6+5) (O J ((rs.getD (ord.getD k 0) dr).told+1))).1;rw[Ml (by rw[aL];exact cG),nD uK.out gj] at h3;show World.ownsRow _ _ _ _ _ (bump rs ord (k+1)).length _;rw[tI,HN.out,FU (by rw[uK.out.len];exact gj),gE,nD uK.out gj];exact h3
   have PA:Hid (gh rs ord (k+1)=gh rs ord k++[(rs.getD (ord.getD k 0) dr).m]):=BS (by rw[uK.out.len];exact gj);have htl:(gh rs ord k).length<=20:=by unfold gh;rw[List.length_map,IA];omega
   obtain⟨oa,ocp,hvo⟩:=FY.out.slice;subst hvo;clear hRO zy;generalize ord.getD k 0=SS at *;generalize hrk:rs.getD SS dr=rk at *;clear hrk;obtain⟨⟨nm,st,lf,ad,sv⟩,td⟩:=rk;simp only at d0 d1 d2 d3 d4 d5 ht3 ht4 Ws PA;simp only[I3] at d0 d1 d2 d3 d4 d5;generalize gh rs ord k=TL at *;have HOT:Hid (∀ob,((wr.setCell ⟨g,SS*6+5,Y⟩ (O J (td+1))).alloc ob).ownsRow w4.heap.size 70 5 (U oa TL.length ocp) TL.length (fl TL)):=λob=>
    Own.below (ms:=TL) (ownsRow_setCell_below FY.out (a:=⟨g,SS*6+5,Y⟩) hgh _) ((Ia _ _).alloc (By _) ob)
   have CS:Hid (∀j,(U oa TL.length ocp).ownBlock=Z j->w4.heap.size<=j):=λj hj=>(FY.out.lt j hj).1;clear FY Wf;go_wp2_with (at_builtin;refine Ja _ rfl _ _ 22 rfl w4.heap.size 70 j0 _ 5 48 Tryz.underlying22 MZ hk0 Wj NK rfl (by omega) _ TL.length (fl TL) rfl ?hown ⟨wr.heap.size,0,Y⟩ 1 1 (Mem.mk nm st lf ad sv).cs rfl rfl ?hnews (da _) ?h63 ?hbytes ?hbase ?_)
   case hown=>exact HOT.out _
   case hnews=>(intro j u hj;rw[Addr.add_lit];exact(cC (by simp)).trans (by simpa[Mem.cs] using hj))
   case h63=>(unfold maxLen;omega)
   case hbytes=>omega
   case hbase=>(simp;omega)
   intro v' w5 r1 r2 r3;have jI:Below w4.heap.size (wr.setCell ⟨g,SS*6+5,Y⟩ (O J (td+1))) w5:=
    ((Ia w4.heap.size (wr.setCell ⟨g,SS*6+5,Y⟩ (O J (td+1)))).alloc (by simpa using bb) _).grown r2 (by simp;omega) (λj hj=>CS.out j hj)
   have R1:Hid (Own _ _ _ _):=FW r1;have SU:=(jI.block g hgh).symm;have R2:Hid (bX (w.heap.size+1) w5 (U (Z ⟨g,0,Y⟩) n c) (bump rs ord (k+1))):=by
    obtain⟨h1,h2⟩:=Ws.out;refine⟨h1,?_⟩;rcases h2 with h2|⟨g',c',cur,hv,dN,hg,hr⟩
    .exact .inl h2
    .have hgg:g'=g:=by simp only[Value.slice.injEq,Option.some.injEq,Addr.mk.injEq,and_true] at hv;exact hv.1.symm
     subst hgg;exact .inr ⟨g',c',cur,hv,dN,by rw[<- SU];exact hg,hr⟩
   have R3:Hid (w5.cell? ⟨w.heap.size,0,Y⟩=Z (O J times)):=by
    have h1:=jI.cell (p:=⟨w.heap.size,0,Y⟩) (by simp only;omega);have h2:(wr.setCell ⟨g,SS*6+5,Y⟩ (O J (td+1))).cell? ⟨w.heap.size,0,Y⟩=wr.cell? ⟨w.heap.size,0,Y⟩:=Ul _ _ _ _ (by simp only;omega);exact h1.trans (h2.trans HCC.out)
   have R4:Hid (∀j,j<rs.length->w5.cell? ⟨gt,j,Y⟩=Z (O J (ord.getD j 0:Nat))):=λj hj=>by
    have h1:=jI.cell (p:=⟨gt,j,Y⟩) HGT.out;have h2:(wr.setCell ⟨g,SS*6+5,Y⟩ (O J (td+1))).cell? ⟨gt,j,Y⟩=wr.cell? ⟨gt,j,Y⟩:=Ul _ _ _ _ (by simp only;omega);exact h1.trans (h2.trans (Wr.out j hj))
   have R5:Hid _:=(HB.out.setCell (p:=⟨g,SS*6+5,Y⟩) (by simp only;omega) _).trans (jI.mono (by omega));have T5:w4.heap.size<=w5.heap.size:=by have:=jI.size;simp at this;omega
   clear r1 r2 r3 jI SU Ws HOT CS d0 d1 d2 d3 d4 d5 oc;go_wp2_with fail;exact⟨⟨k+1,by omega,by go_num,(by rw[PA.out];exact R1.out),R2.out,R3.out,R4.out,R5.out,T5⟩,by simp[intOf];omega⟩
  .have hkq:k=q:=by omega
   subst hkq;have aL:(bump rs ord k).length=n:=by rw[tI];exact HN.out
   clear Wr;go_wp2_with fail;refine(tF (bump rs ord k) n g c w.heap.size (w.heap.size+1) times _ aL (by omega) Wf.out (by omega) (by omega) HCC.out).mono ?_;rintro e w6 ⟨m,rfl,ho6,gK,CF⟩;have S1:Hid (Own w.heap.size w6 u11 (gh rs ord k)):=by
    obtain⟨h1,h2⟩:=FY.out;refine⟨h1,?_⟩;rcases h2 with h2|⟨g',c',cur,hv,dN,hg,hr⟩
    .exact .inl h2
    .exact .inr ⟨g',c',cur,hv,by omega,by rw[CF.2 g' (Ib.1 hg).1 (by omega)];exact hg,hr⟩
   have S2:Hid (bX w.heap.size w6 (U (Z ⟨g,0,Y⟩) m c) ((bump rs ord k).filter (dW times))):=ho6.base (by omega);have S3:Hid _:=HB.out.trans (gK.mono (by omega));clear ho6 gK CF FY Wf HCC;go_wp2_with fail;go_ret3
   exact⟨_,_,ord,rfl,uK.out,by rw[<- hq];exact S1.out,by rw[<- hq];exact S2.out,S3.out⟩
end Go.Proofs.YtfidjlcdlakceaaGreatDoor
namespace Go.Proofs
open Go.Shelf
def Tryz.vU:Go.Shelf.Ren:=⟨fun|6=>217|15=>159|14=>253|28=>215|29=>216|20=>277|21=>278|22=>279|23=>280|24=>281|25=>282|26=>283|27=>284|46=>292|47=>256|48=>257|49=>293|50=>294|57=>307|n=>n,fun|22=>214|24=>3|25=>38|3=>3|39=>192|0=>0|53=>260|55=>262|4=>4|46=>267|45=>266|50=>82|5=>5|9=>9|66=>288|70=>292|76=>312|77=>313|n=>n,fun|n=>n⟩
theorem Tryz.SV:Go.Proofs.SlLaysF.n6 be Tryz.vU:={
 mixed:=by kernel_rfl
 f6:=⟨Tryz.f217.name,by decide,Tryz.func217.trans (congrArg Z (by kernel_rfl))⟩
 f14:=⟨Tryz.f253.name,by decide,Tryz.func253.trans (congrArg Z (by kernel_rfl))⟩
 f15:=Tryz.func159.trans (congrArg Z (by kernel_rfl))
 f20:=⟨Tryz.f277.name,by decide,Tryz.func277.trans (congrArg Z (by kernel_rfl))⟩
 f21:=⟨Tryz.f278.name,by decide,Tryz.func278.trans (congrArg Z (by kernel_rfl))⟩
 f22:=⟨Tryz.f279.name,by decide,Tryz.func279.trans (congrArg Z (by kernel_rfl))⟩
 f23:=⟨Tryz.f280.name,by decide,Tryz.func280.trans (congrArg Z (by kernel_rfl))⟩
 f24:=⟨Tryz.f281.name,by decide,Tryz.func281.trans (congrArg Z (by kernel_rfl))⟩
 f25:=⟨Tryz.f282.name,by decide,Tryz.func282.trans (congrArg Z (by kernel_rfl))⟩
 f26:=⟨Tryz.f283.name,by decide,Tryz.func283.trans (congrArg Z (by kernel_rfl))⟩
 f27:=⟨Tryz.f284.name,by decide,Tryz.func284.trans (congrArg Z (by kernel_rfl))⟩
 f28:=Tryz.func215.trans (congrArg Z (by kernel_rfl))
 f29:=Tryz.func216.trans (congrArg Z (by kernel_rfl))
 f46:=⟨Tryz.f292.name,by decide,Tryz.func292.trans (congrArg Z (by kernel_rfl))⟩
 f47:=Tryz.func256.trans (congrArg Z (by kernel_rfl))
 f48:=Tryz.func257.trans (congrArg Z (by kernel_rfl))
 f49:=⟨Tryz.f293.name,by decide,Tryz.func293.trans (congrArg Z (by kernel_rfl))⟩
 f50:=⟨Tryz.f294.name,by decide,Tryz.func294.trans (congrArg Z (by kernel_rfl))⟩
 f57:=⟨Tryz.f307.name,by decide,Tryz.func307.trans (congrArg Z (by kernel_rfl))⟩
 t0:=Tryz.underlying0
 a0:=Tryz.isAgg0
 z0:=Tryz.sizeOf0
 v0:=Tryz.zeroValue0
 t3:=Tryz.underlying3
 a3:=JX
 z3:=JI
 v3:=Tryz.zeroValue3
 t4:=Tryz.underlying4
 a4:=Tryz.isAgg4
 z4:=Tryz.sizeOf4
 v4:=Tryz.zeroValue4
 t5:=Tryz.underlying5
 a5:=Tryz.isAgg5
 z5:=Tryz.sizeOf5
 v5:=Tryz.zeroValue5
 t9:=Tryz.underlying9
 a9:=Tryz.isAgg9
 z9:=Tryz.sizeOf9
 v9:=Tryz.zeroValue9
 t22:=Tryz.underlying214
 a22:=Tryz.isAgg214
 z22:=Tryz.sizeOf214
 v22:=Tryz.zeroValue214
 a24:=JX
 z24:=JI
 t25:=Tryz.underlying38
 a25:=Tryz.isAgg38
 z25:=Tryz.sizeOf38
 v25:=Tryz.zeroValue38
 t39:=Tryz.underlying192
 a39:=Tryz.isAgg192
 z39:=Tryz.sizeOf192
 v39:=Tryz.zeroValue192
 t45:=Tryz.underlying266
 a45:=Tryz.isAgg266
 z45:=Tryz.sizeOf266
 v45:=Tryz.zeroValue266
 t46:=Tryz.underlying267
 a46:=Tryz.isAgg267
 z46:=Tryz.sizeOf267
 v46:=Tryz.zeroValue267
 t50:=Tryz.underlying82
 a50:=Tryz.isAgg82
 z50:=Tryz.sizeOf82
 v50:=Tryz.zeroValue82
 t53:=Tryz.underlying260
 a53:=Tryz.isAgg260
 z53:=Tryz.sizeOf260
 v53:=Tryz.zeroValue260
 t55:=Tryz.underlying262
 a55:=Tryz.isAgg262
 z55:=Tryz.sizeOf262
 v55:=Tryz.zeroValue262
 t66:=Tryz.underlying288
 a66:=Tryz.isAgg288
 z66:=Tryz.sizeOf288
 v66:=Tryz.zeroValue288
 t70:=Tryz.underlying292
 a70:=Tryz.isAgg292
 z70:=Tryz.sizeOf292
 v70:=Tryz.zeroValue292
 t76:=Tryz.underlying312
 a76:=Tryz.isAgg312
 z76:=Tryz.sizeOf312
 v76:=Tryz.zeroValue312
 t77:=Tryz.underlying313
 a77:=Tryz.isAgg313
 z77:=Tryz.sizeOf313
 v77:=Tryz.zeroValue313 }
end Go.Proofs
namespace Go.Proofs.YtfidjlcdlakceaaGreatDoor
open Go.RowKit Go.Sort Go.Shelf Go.Lib
theorem Dh(rs:List bu)(i k:Nat):cfR rs i k<0↔(rs.getD i dr).told<(rs.getD k dr).told\/((rs.getD i dr).told=(rs.getD k dr).told/\k<i):=by
 unfold cfR SR tH;generalize(rs.getD i dr).told=a;generalize(rs.getD k dr).told=b
 repeat' split
 all_goals omega
def SX(rs:List bu)(m:Nat)(x y:Fin (m+1)):Int:=cfR rs x.val y.val
theorem ltF(rs:List bu)(m:Nat)(x y:Fin (m+1)):ltOf (SX rs m) x y=true↔(rs.getD x.val dr).told<(rs.getD y.val dr).told\/((rs.getD x.val dr).told=(rs.getD y.val dr).told/\y.val<x.val):=by
 unfold ltOf SX;rw[decide_eq_true_iff,Dh]
theorem pS(rs:List bu)(m:Nat)(x y:Fin (m+1)):ltOf (SX rs m) x y=false↔¬ ((rs.getD x.val dr).told<(rs.getD y.val dr).told\/((rs.getD x.val dr).told=(rs.getD y.val dr).told/\y.val<x.val)):=by
 rw[<- ltF,Bool.not_eq_true]
theorem agX(rs:List bu)(m:Nat):SWO (ltOf (SX rs m)) where
 irrefl x:=by rw[pS];omega
 trans x y z h1 h2:=by rw[ltF] at *;omega
 ntrans x y z h1 h2:=by rw[pS] at *;omega
def pT(m:Nat)(x:Fin (m+1)):Value:=O J (x.val:Nat)
def jW(m:Nat):Array (Fin (m+1)):=Array.ofFn (λx=>x)
theorem fK(m:Nat):(jW m).size=m+1:=by simp[jW]
theorem zz(m j:Nat)(hj:j<m+1):(jW m)[j]! = ⟨j,hj⟩:=by
 rw[getElem!_pos _ j (by rw[fK];exact hj)];simp[jW]
theorem FZ(m:Nat):(jW m).toList.map (·.val)=JS (m+1):=by
 apply List.ext_getElem
 .simp[jW]
 .intro j h1 h2
  rw[List.getElem_map,List.getElem_range,Array.getElem_toList];simp only[jW,Array.getElem_ofFn]
theorem BU(W:World)(o:Obj):(W.alloc o).drew=grow (W.drewN 1) #[o]:=by
 simp only[grow,World.alloc,World.drew,World.drewN,Array.push_eq_append]
theorem agY(rs:List bu)(m lb b off ca g:Nat)(w:World)(hn:rs.length=m+1)(hr:iX w b off rs)(hl:w.cell? ⟨lb,0,Y⟩=Z (U (Z ⟨b,off,Y⟩) (m+1) ca))(h1:lb≠g)(h2:b≠g)(hb:b<w.heap.size) :
 CmpLays1 be 218 #[Ig (Z ⟨lb,0,Y⟩)] (pT m) (SX rs m) g 0 (jW m).size w:=by
 intro q os dk hs x y;have GG:=IE w _ hl;have c1:=(Ql (pT m) w g 0 q dk os ⟨lb,0,Y⟩ h1 GG).trans hl;have c2:=(Ql (pT m) w g 0 q dk os ⟨b,off+x.val*6+5,Y⟩ h2 hb).trans (hr x.val (by rw[hn];exact x.isLt)).2.2.2.2.2;have c3:=(Ql (pT m) w g 0 q dk os ⟨b,off+y.val*6+5,Y⟩ h2 hb).trans (hr y.val (by rw[hn];exact y.isLt)).2.2.2.2.2;refine(FR _ _ lb b off (m+1) ca x.val y.val _ c1 x.isLt y.isLt c2 c3).mono ?_;rintro e w' ⟨rfl,rfl⟩;exact⟨rfl,1,_,BU _ _⟩
theorem Mm{rs:List bu}{m:Nat}{d':Array (Fin (m+1))}(hn:rs.length=m+1)(hp:PermIn 0 (jW m).size (jW m) d')(hs:SortedIn (ltOf (SX rs m)) 0 (jW m).size d'):ie rs (d'.toList.map (·.val)):=by
 obtain⟨bb,_,yB⟩:=hp;rw[Uk,show d'.extract 0 (jW m).size=d' by rw[<- bb,Uk]] at yB;have hP:(d'.toList.map (·.val)).Perm (JS rs.length):=by
  rw[hn,<- FZ];exact yB.map _
 have hlen:(d'.toList.map (·.val)).length=m+1:=by rw[hP.length_eq,hn];simp
 have sW:=hP.nodup_iff.2 List.nodup_range;refine⟨hP,λi j kR hj=>?_⟩;have VB:d'.size=m+1:=by rw[bb,fK]
 have gd:j<d'.size:=by rw[VB];omega
 have hi':i<d'.size:=by omega
 have e1:(d'.toList.map (·.val)).getD i 0=d'[i].val:=by rw[oC (by omega)];simp
 have e2:(d'.toList.map (·.val)).getD j 0=d'[j].val:=by rw[oC hj];simp
 have bE:=Ju.1 sW i j (by omega) hj kR;simp only[List.getElem_map,Array.getElem_toList] at bE;have h:=hs i j (by omega) kR (by rw[fK];omega);rw[getElem!_pos d' j gd,getElem!_pos d' i hi',pS] at h;rw[e1,e2,Dh];omega
abbrev zA(k:Nat):List Value:=(JS k).map (λj=>Value.int J (j:Nat))
theorem F9(k:Nat):zA (k+1)=zA k++[O J (k:Nat)]:=by simp[zA,List.range_succ]
theorem ru{m:Nat}{B:Nat}{w:World}{g off n:Nat}{d:Array (Fin (m+1))}{os:Array Obj}(hg:B<=g)(hB:B<=w.heap.size):Below B w (Q4 (pT m) w g off n d os):=by
 refine⟨rfl,rfl,rfl,by simp[Q4,putRow,mapBlock,Jq,grow],λk hk=>?_⟩;unfold Q4;rw[Go.Sort.heap_grow_old _ _ (by simp[putRow,mapBlock,Jq];omega)]
 have:g≠k:=by omega
 simp[putRow,mapBlock,Jq,Array.getElem?_modify,this]
theorem BV(rs:List bu)(v:Value)(m:Nat)(hn:rs.length=m+1)(Aw:m<1000):pR rs v:=by
 intro w hv;obtain⟨i0,eP,cE,gn,ga⟩:=info_parts Tryz.aaO;obtain⟨pa,ca,rfl,_,ha⟩:=hv;obtain⟨b,off,KA,GG,hr⟩:∃b off,pa=Z ⟨b,off,Y⟩/\b<w.heap.size/\iX w b off rs:=by
  rcases ha with h|h
  .rw[h] at hn;simp at hn
  .exact h
 subst KA;have HR:Hid (iX w b off rs):=hr;have HN:Hid _:=hn;rw[hn];clear ha hr hn;have eg:=enters_of Tryz.func218 (by kernel_rfl) rfl;have HEG:Hid _:=eg;clear eg;go_enter Tryz.func160,Tryz.ntmps160;go_wp2_with fail;go_loopw [3,7] (λo i wr=>∃k:Nat,k<=m+1/\i=O J k/\Hid (wr.ownsRow (w.heap.size+1) 3 1 o k (zA k))/\Hid (Below (w.heap.size+1) (w.alloc (.cells #[U (Z ⟨b,off,Y⟩) (m+1) ca] 23)) wr)) (λ_ i _=>m+1-(intOf i).toNat)
 case atStart=>exact⟨0,IF _,rfl,World.ownsRow_nil _ _ _ _,Ia _ _⟩
 case round=>
  obtain⟨k,hk,rfl,HO,HB⟩:=hrel;have bb:w.heap.size+1<=wr.heap.size:=by have:=HB.out.size;simpa using this
  by_cases aB:k<m+1
  .have jF:Hid (∀ob,(wr.alloc ob).ownsRow (w.heap.size+1) 3 1 u3 k (zA k)):=λob=>by
    obtain⟨h1,h2⟩:=HO.out;refine⟨h1,?_⟩;rcases h2 with h2|⟨g,c,cur,hv,dN,hg,hr⟩
    .exact .inl h2
    .exact .inr ⟨g,c,cur,hv,dN,by rw[((Ia wr.heap.size wr).alloc (By _) ob).block g (Ib.1 hg).1];exact hg,hr⟩
   have CS:Hid (∀j,u3.ownBlock=Z j->w.heap.size+1<=j):=λj hj=>(IY HO.out j hj).1;clear HO;go_wp2_with (at_builtin;refine Ja _ rfl _ _ 214 rfl (w.heap.size+1) 3 i0 _ 1 8 Tryz.underlying214 eP cE gn ga rfl (by omega) _ k (zA k) rfl ?hown ⟨wr.heap.size,0,Y⟩ 1 1 [O J k] rfl rfl ?hnews (by simp[Value.oneCell']) ?h63 ?hbytes ?hbase ?_)
   case hown=>exact jF.out _
   case hnews=>(intro j u hj;rw[Addr.add_lit];exact(cC rfl).trans (by simpa using hj))
   case h63=>(unfold maxLen;omega)
   case hbytes=>omega
   case hbase=>(simp;omega)
   intro v' w2 r1 r2 r3;have R1:Hid (w2.ownsRow (w.heap.size+1) 3 1 v' (k+1) (zA (k+1))):=by rw[F9];exact r1
   have R2:Hid (Below (w.heap.size+1) (w.alloc (.cells #[U (Z ⟨b,off,Y⟩) (m+1) ca] 23)) w2):=
    (HB.out.alloc bb _).grown r2 (by simp;omega) (λj hj=>CS.out j hj)
   clear r1 r2 r3;go_wp2_with fail;exact⟨⟨k+1,by omega,by go_num,R1.out,R2.out⟩,by simp[intOf];omega⟩
  .have gj:k=m+1:=by omega
   subst gj;obtain⟨g,c,hu3,dN,dO,bj,iz⟩:∃g c,u3=U (Z ⟨g,0,Y⟩) (m+1) c/\w.heap.size+1<=g/\m+1<=c/\(∀j,j<m+1->wr.cell? ⟨g,j,Y⟩=Z (O J (j:Nat)))/\(∀j,wr.frozen? ⟨g,j,Y⟩=false):=by
    have hO:=HO.out;rcases HO.out.2 with⟨_,h0⟩|⟨g,c,cur,hv,dN,hg,fa,dO,cJ,aV⟩
    .omega
    .subst hv
     refine⟨g,c,rfl,dN,fa,λj hj=>?_,λj=>Jw hO j⟩;rw[OV hO j (by omega)];simp[zA,hj]
   subst hu3;have mA:=IE wr ⟨g,0,Y⟩ (bj 0 (by omega));have agZ:wr.cell? ⟨w.heap.size,0,Y⟩=Z (U (Z ⟨b,off,Y⟩) (m+1) ca):=by
    rw[HB.out.cell (p:=⟨w.heap.size,0,Y⟩) (by simp only;omega)];exact cC rfl
   have dP:=(HR.out.below ((Ia w.heap.size w).alloc (By _) _) GG).below HB.out (by omega);have mC:=Any.slices_SortFunc Tryz.SV (pT m) (λ_=>rfl) (SX rs m) (agX rs m) 218 #[Ig (Z ⟨w.heap.size,0,Y⟩)] g 0 c (jW m) wr HEG.out (agY rs m w.heap.size b off ca g wr HN.out dP agZ (by omega) (by omega) (by omega)) (λj hj=>by
    rw[fK] at hj;rw[zz m j hj,I3];exact⟨bj j hj,iz j⟩) mA (by rw[fK];omega)
   have abt:Calls be 217 #[U (Z ⟨g,0,Y⟩) (m+1) c,.func (.func 218) #[] #[Ig (Z ⟨w.heap.size,0,Y⟩)]] wr λe w'=>e=sh (Il #[])/\∃d' n os,PermIn 0 (jW m).size (jW m) d'/\SortedIn (ltOf (SX rs m)) 0 (jW m).size d'/\w'=Q4 (pT m) wr g 0 n d' os:=by
    have h:=mC;rw[show U (Z ⟨g,0,Y⟩) (jW m).size c=U (Z ⟨g,0,Y⟩) (m+1) c by rw[fK]] at h;exact h
   have HHH:Hid (Holds (pT m) wr g 0 (jW m)):=λj hj=>by
    rw[fK] at hj;rw[zz m j hj,I3];exact⟨bj j hj,iz j⟩
   clear mC bj iz dP HO;go_wp2_with fail;refine abt.mono ?_;rintro e w2 ⟨rfl,d',nd,os,hp,hs,qR⟩;have uK:Hid _:=Mm HN.out hp hs;have VB:d'.size=m+1:=by rw[hp.1,fK]
   have R0:Hid (∀j,j<m+1->w2.cell? ⟨g,j,Y⟩=Z (O J ((d'.toList.map (·.val)).getD j 0:Nat))):=λj hj=>by
    have h1:=cell?_putRow (pT m) (Jq wr nd) g 0 (jW m) d' (show Holds (pT m) (Jq wr nd) g 0 (jW m) from HHH.out) hp.1 j (by omega);have h2:w2.cell? ⟨g,0+j,Y⟩=(putRow (pT m) (Jq wr nd) g 0 d').cell? ⟨g,0+j,Y⟩:=by
     rw[qR];exact cell?_grow _ _ _ (by
      have h3:=IE (putRow (pT m) (Jq wr nd) g 0 d') ⟨g,0+j,Y⟩ h1;exact h3)
    rw[I3] at h1 h2;rw[h2,h1,getElem!_pos d' j (by omega)];simp[pT,Io,VB,hj]
   have Nl:Hid (Below w.heap.size w w2):=by
    rw[qR];exact(((Ia w.heap.size w).alloc (By _) _).trans (HB.out.mono (Nat.le_succ _))).trans (ru (by omega) (by omega))
   clear HHH hp hs qR;go_wp2_with fail;go_ret;exact⟨g,c,d'.toList.map (·.val),rfl,uK.out,R0.out,dO,by omega,Nl.out⟩
theorem BW(v:Value)(w:World)(hv:kB w v []) :
 Calls be 160 #[v] w λe w'=>e=sh (U Y 0 0)/\Below w.heap.size w w':=by
 obtain⟨pa,ca,rfl,_,_⟩:=hv;simp only[Ou];have hs:=λ(fv:Value) (W:World)=>AnyF.slices_SortFunc_none (P:=be) (ρ:=Tryz.vU) { Tryz.SV with } Y 0 fv W;have HS:Hid _:=hs;clear hs;have kO:Below w.heap.size w (w.alloc (.cells #[U pa 0 ca] 23)):=(Ia _ _).alloc (By _) _;go_enter Tryz.func160,Tryz.ntmps160;go_wp2_with fail;refine JQ 1 ?_;rw[Jx];go_wp2_with fail;refine(HS.out _ _).mono ?_;rintro e w' ⟨rfl,rfl⟩;go_wp2_with fail;go_ret;exact⟨rfl,kO⟩
theorem tJ(p:Option Addr)(c:Nat)(fv:Value)(w:World) :
 Calls be 187 #[U p 0 c,fv] w λe w'=>e=sh (O J (-1))/\w'=w:=by
 go_enter Tryz.func187,Tryz.ntmps187;go_wp2_with fail;refine JQ 1 ?_;rw[Jx];go_wp2_with fail;go_ret;exact⟨rfl,rfl⟩
theorem rv(p:Option Addr)(c:Nat)(fv:Value)(w:World) :
 Calls be 161 #[U p 0 c,fv] w λe w'=>e=sh (U p 0 c)/\w'=w:=by
 go_enter Tryz.func161,Tryz.ntmps161;go_wp2_with fail;refine(tJ _ _ _ _).mono ?_;rintro e w' ⟨rfl,rfl⟩;go_wp2_with fail;go_ret;exact⟨rfl,rfl⟩
theorem Ga(v:Value)(most times:Int)(w:World)(hv:kB w v [])(h0:cI []=0)(hm:within most 1 20=true)(ht:within times 1 100=true) :
 Calls be 107 #[v,O J most,O J times] w λe w'=>∃v1 v2,e=sh (Il #[v1,v2,O J 0])/\Own w.heap.size w' v1 []/\bX w.heap.size w' v2 []/\Below w.heap.size w w':=by
 have HV:Hid (kB w v []):=hv;have mW:1<=most/\most<=20:=by simp[within] at hm;omega
 obtain⟨mW,MS⟩:=mW;have iO:=λ(w:World) (h:kB w v [])=>fu [] v w h;rw[h0] at iO;obtain⟨pa,ca,rfl,_,_⟩:=hv;simp only[Ou] at *;have kO:Below w.heap.size w (w.alloc (.cells #[O J times] 3)):=(Ia _ _).alloc (By _) _;go_enter Tryz.func107,Tryz.ntmps107;go_wp2_with fail;refine(iO _ (HV.out.below kO)).mono ?_;rintro e w1 ⟨rfl,an⟩;have c1:w1.cell? ⟨w.heap.size,0,Y⟩=Z (O J times):=by
  rw[an.cell (p:=⟨w.heap.size,0,Y⟩) (by simp)];exact cC rfl
 have aK:Hid _:=kO.trans (an.mono (by simp));clear an kO iO;go_wp2_with (go_at_call 70;refine(bw _ _ _ _).mono ?_;rintro e w' ⟨rfl,rfl⟩;first|rw[hm]|rw[ht]);refine(fA [] _ _ (HV.out.below aK.out) (by simp)).mono ?_;rintro e w3 ⟨v3,rfl,nu,bn⟩;have gI:Hid (bX _ _ _ _):=nu.base aK.out.size;have cT:Hid _:=aK.out.trans (bn.mono aK.out.size);clear bn nu c1;go_wp2_with fail;refine(BW _ _ (HV.out.below cT.out)).mono ?_;rintro e w4 ⟨rfl,e9⟩;have fb:Hid _:=cT.out.trans (e9.mono cT.out.size);have qY:Hid (bX _ _ _ _):=gI.out.below e9;clear e9 gI;obtain⟨g,c,Fq⟩:∃g c,v3=U g 0 c:=by
  rcases qY.out.2 with⟨h,_⟩|⟨g,c,cur,h,_⟩
  .exact⟨_,_,h⟩
  .exact⟨_,_,h⟩
 subst Fq;have agU:min most 0=0:=by omega
 go_wp2_with fail;refine JQ 1 ?_;rw[Jx];go_wp2_with fail;refine(rv _ _ _ _).mono ?_;rintro e w' ⟨rfl,rfl⟩;go_wp2_with fail;go_ret3
 exact⟨_,_,rfl,bz _ _,qY.out,fb.out⟩
end Go.Proofs.YtfidjlcdlakceaaGreatDoor
