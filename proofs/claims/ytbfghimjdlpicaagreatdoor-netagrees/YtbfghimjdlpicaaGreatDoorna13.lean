import Derived.Test.YtbfghimjdlpicaaGreatDoorna12
import Derived.Shelf.SlSortCmp.NoneTotal
import Derived.Shelf.SlSortFunc.HeapSort
set_option maxHeartbeats 6400000
set_option maxRecDepth 100000
open Go.Value renaming int→U,tuple→Ip,slice→J,pointer→If
open Go.IntKind renaming i64→O
open Go.Ending renaming returned→AT
open Go.Proofs.Tryz renaming prog→AS,ntmps169→Q9,isAgg3→OA,sizeOf3→Oi
open Option renaming none→be,some→AI
open Go renaming wp_loop_rounds→Od,rounds_succ→JZ,wpList_append_own→IZ
open Go.World renaming new_ne→QV,block_lt_of_cell?→Iw,cell?_setCell_far→JX
open List renaming range→JC,getD→Ir,length_take→IE,pairwise_iff_getElem→Jb,foldl_cons→OI,length_set→IS,getElem?_set_ne→JY,getElem?_set_self→Oo,getElem?_eq_none→I3
open Go.RowKit.Below renaming refl→Ib
open Nat renaming le_refl→Ie,zero_le→IF,zero_add→ID
open Go.World.ownsRow renaming frozenAt→Jc,stored→IM,lt→OS,cellAt→OH
open Array renaming getElem?_eq_some_iff→BY
open Go.Sort renaming ahead→J8
namespace Go.Proofs.YtbfghimjdlpicaaGreatDoor
open Go.RowKit Go.WideMaps Go.Maps
theorem kC(a b:ByteArray):(a.toList==b.toList)=decide (a=b):=by
 by_cases h:a=b
 .subst h;simp
 .have h2:¬ a.toList=b.toList:=λe=>h (kK (by rw[Lib.toList_data,Lib.toList_data] at e;exact e))
  simp[h,h2]
end Go.Proofs.YtbfghimjdlpicaaGreatDoor
namespace Go.Proofs.YtbfghimjdlpicaaGreatDoor
open Go.RowKit
theorem GA(m:Int)(w:World)(h:within m 0 20=true) :
 Calls AS 66 #[U O m] w λe w'=>e=AT (Ip #[U O (3*(Lib.bitLen m.toNat:Nat)),U O 0])/\w'=w:=by
 have hm:0<=m/\m<=20:=by simp[within] at h;omega
 have hl:(Lib.bitLen m.toNat:Int)<=64:=by have:=Lib.bitLen_le m.toNat 64 (by omega) (by omega);omega
 go_enter Tryz.func66,Tryz.ntmps66;go_wp2_with (first|(go_at_call 51;refine(cM _ _ _ _).mono ?_;rintro e w' ⟨rfl,rfl⟩;rw[h])|(go_at_call 115;refine(Tryz.bits_Len _ _ (by omega) (by omega)).mono ?_;rintro e w' ⟨rfl,rfl⟩));go_ret2;exact⟨rfl,rfl⟩
def uQ(a b:Int):Int:=if a<b then -1 else if b<a then 1 else 0
theorem yV(a b:Int)(w:World) :
 Calls AS 170 #[U O a,U O b] w λe w'=>e=AT (U O (uQ a b))/\w'=w:=by
 go_enter Tryz.func170,Tryz.ntmps170;go_wp2;all_goals
  go_ret;exact⟨an (by unfold uQ;(repeat' split)<;>omega),rfl⟩
def T4(a b:Int):Int:=if a=0 then b else a
theorem CN(a b:Int)(g:Nat)(c:Nat)(w:World)(h0:w.cell? ⟨g,0,be⟩=AI (U O a))(h1:w.cell? ⟨g,1,be⟩=AI (U O b)) :
 Calls AS 169 #[J (AI ⟨g,0,be⟩) 2 c] w λe w'=>e=AT (U O (T4 a b))/\w'=w:=by
 by_cases ha:a=0
 .subst ha
  by_cases hb:b=0
  .subst hb
   go_enter Tryz.func169,Q9;go_wp2_with fail;refine Od 3 ?_;rw[JZ];go_wp2_with fail;rw[JZ];go_wp2_with fail;rw[JZ];go_wp2_with fail;go_ret;exact⟨rfl,rfl⟩
  .have yN:(b !=0)=true:=by simpa using hb
   go_enter Tryz.func169,Q9;go_wp2_with fail;refine Od 3 ?_;rw[JZ];go_wp2_with fail;rw[JZ];go_wp2_with fail;go_ret;exact⟨rfl,rfl⟩
 .have ha':(a !=0)=true:=by simpa using ha
  go_enter Tryz.func169,Q9;go_wp2_with fail;refine Od 3 ?_;rw[JZ];go_wp2_with fail;go_ret;exact⟨an (by unfold T4;rw[if_neg ha]),rfl⟩
def cfR(rs:List bU)(i k:Nat):Int:=T4 (uQ (rs.getD i dr).told (rs.getD k dr).told) (uQ k i)
theorem GB(ti tk:Int)(lb b off n ca i k:Nat)(w:World)(hl:w.cell? ⟨lb,0,be⟩=AI (J (AI ⟨b,off,be⟩) n ca))(hi:i<n)(hk:k<n)(RQ:w.cell? ⟨b,off+i*6+5,be⟩=AI (U O ti))(CO:w.cell? ⟨b,off+k*6+5,be⟩=AI (U O tk)) :
 Calls AS 168 #[U O i,U O k,If (AI ⟨lb,0,be⟩)] w λe w'=>e=AT (U O (T4 (uQ ti tk) (uQ k i)))/\w'=(w.alloc (.cells #[U O (uQ ti tk),U O (uQ k i)] 3)).drew:=by
 have fH:(0:Int)<=(i:Int):=Int.natCast_nonneg _;have hi1:(i:Int)<(n:Int):=by omega
 have yW:(0:Int)<=(k:Int):=Int.natCast_nonneg _;have kt:(k:Int)<(n:Int):=by omega
 have h1:=QV w _ hl;have h2:=QV w _ RQ;have h3:=QV w _ CO;go_enter Tryz.func168,Tryz.ntmps168;go_wp2_with fail;go_region_held3 (λw'=>w'.cell? ⟨lb,0,be⟩=AI (J (AI ⟨b,off,be⟩) n ca)/\w'.cell? ⟨b,off+i*6+5,be⟩=AI (U O ti)/\w'.cell? ⟨b,off+k*6+5,be⟩=AI (U O tk)) (go_keep) (first|(go_at_call 170;refine(yV _ _ _).mono ?_;rintro e w' ⟨rfl,rfl⟩)|(go_at_call 169;refine(CN (uQ ti tk) (uQ k i) _ _ _ (dh rfl) (dh rfl)).mono ?_;rintro e w' ⟨rfl,rfl⟩))
 go_wp2_with fail;go_ret;exact⟨rfl,rfl⟩
structure jJ(rs:List bU)(ord:List Nat):Prop where
 perm:ord.Perm (JC rs.length)
 less:∀i j,i<j->j<ord.length->cfR rs (ord.getD i 0) (ord.getD j 0)<0
theorem jJ.len{rs:List bU}{ord:List Nat}(h:jJ rs ord):ord.length=rs.length:=by rw[h.perm.length_eq];simp
theorem jJ.bd{rs:List bU}{ord:List Nat}(h:jJ rs ord):∀x∈ord,x<rs.length:=λx hx=>by simpa using h.perm.mem_iff.1 hx
theorem jJ.nodup{rs:List bU}{ord:List Nat}(h:jJ rs ord):ord.Nodup:=h.perm.nodup_iff.2 List.nodup_range
theorem rB{ord:List Nat}{j:Nat}(h:j<ord.length):ord.getD j 0=ord[j]:=by simp[Ir,List.getElem?_eq_getElem h]
theorem jJ.lt{rs:List bU}{ord:List Nat}(h:jJ rs ord){j:Nat}(hj:j<rs.length):ord.getD j 0<rs.length:=by
 have GC:j<ord.length:=by rw[h.len];exact hj
 rw[rB GC];exact h.bd _ (List.getElem_mem GC)
theorem jJ.fresh{rs:List bU}{ord:List Nat}(h:jJ rs ord){j:Nat}(hj:j<rs.length):ord.getD j 0 ∉ ord.take j:=by
 have GC:j<ord.length:=by rw[h.len];exact hj
 rw[rB GC];intro hm;obtain⟨i,hi,e⟩:=List.getElem_of_mem hm;rw[IE] at hi;rw[List.getElem_take] at e;exact Jb.1 h.nodup i j (by omega) GC (by omega) e
def ft(l:List bU)(i:Nat):List bU:=l.set i ⟨(l.getD i dr).m,(l.getD i dr).told+1⟩
def bump(rs:List bU)(ord:List Nat)(k:Nat):List bU:=(ord.take k).foldl ft rs
def iw(rs:List bU)(ord:List Nat)(k:Nat):List Mem:=(ord.take k).map (λi=>(rs.getD i dr).m)
theorem GD(rs:List bU)(ord:List Nat):bump rs ord 0=rs:=by simp[bump]
theorem CP(rs:List bU)(ord:List Nat):iw rs ord 0=[]:=by simp[iw]
theorem A5{ord:List Nat}{k:Nat}(h:k<ord.length):ord.take (k+1)=ord.take k++[ord.getD k 0]:=by
 rw[List.take_succ_eq_append_getElem h,rB h]
theorem GF{rs:List bU}{ord:List Nat}{k:Nat}(h:k<ord.length):bump rs ord (k+1)=ft (bump rs ord k) (ord.getD k 0):=by
 unfold bump;rw[A5 h,List.foldl_append];rfl
theorem CQ{rs:List bU}{ord:List Nat}{k:Nat}(h:k<ord.length):iw rs ord (k+1)=iw rs ord k++[(rs.getD (ord.getD k 0) dr).m]:=by
 unfold iw;rw[A5 h,List.map_append];rfl
theorem xS:∀(is:List Nat) (l:List bU),(is.foldl ft l).length=l.length
 |[],_=>rfl
 |i::r,l=>by rw[OI,xS r,ft,IS]
theorem uR(rs:List bU)(ord:List Nat)(k:Nat):(bump rs ord k).length=rs.length:=xS _ _
theorem tr:∀(is:List Nat) (l:List bU) (j:Nat),j ∉ is->(is.foldl ft l).getD j dr=l.getD j dr
 |[],_,_,_=>rfl
 |i::r,l,j,h=>by
  simp only[List.mem_cons,not_or] at h;rw[OI,tr r _ j h.2,ft];simp[Ir,JY (Ne.symm h.1)]
theorem ql{rs:List bU}{ord:List Nat}(h:jJ rs ord){k:Nat}(hk:k<rs.length):(bump rs ord k).getD (ord.getD k 0) dr=rs.getD (ord.getD k 0) dr:=
 tr _ _ _ (h.fresh hk)
def sD(rs:List bU)(v:Value):Prop:=∀w,oj w v rs->Calls AS 116 #[v] w λe w'=>∃(g c:Nat) (ord:List Nat),e=AT (J (AI ⟨g,0,be⟩) rs.length c)/\jJ rs ord/\(∀j,j<rs.length->w'.cell? ⟨g,j,be⟩=AI (U O (ord.getD j 0:Nat)))/\rs.length<=c/\w.heap.size<=g/\Below w.heap.size w w'
theorem Mr{rs:List bU}{p:Nat}(hp:p<rs.length)(t:Int):(fD rs).set (p*6+5) (U O t)=fD (rs.set p ⟨(rs.getD p dr).m,t⟩):=by
 apply List.ext_getElem?;intro k;by_cases hk:k<rs.length*6
 .have h2:=mV (rs.set p ⟨(rs.getD p dr).m,t⟩) (k/6) (by rw[IS];omega) (k%6) (by omega)
  rw[show k/6*6+k%6=k by omega] at h2;have h4:=mV rs (k/6) (by omega) (k%6) (by omega);rw[show k/6*6+k%6=k by omega] at h4;rw[h2];by_cases oo:k/6=p
  .rw[show(rs.set p ⟨(rs.getD p dr).m,t⟩).getD (k/6) dr=⟨(rs.getD p dr).m,t⟩ by rw[oo];simp[Ir,Oo hp]]
   rw[oo] at h4;by_cases h5:k%6=5
   .rw[show p*6+5=k by omega,Oo (by rw[eD];omega),h5]
    rfl
   .rw[JY (by omega),h4]
    have h6:k%6<5:=by omega
    generalize k%6=q at h6
    match q,h6 with
    |0,_=>rfl
    |1,_=>rfl
    |2,_=>rfl
    |3,_=>rfl
    |4,_=>rfl
  .rw[show(rs.set p ⟨(rs.getD p dr).m,t⟩).getD (k/6) dr=rs.getD (k/6) dr by simp[Ir,JY (Ne.symm oo)],JY (by omega),h4]
 .rw[I3 (by rw[IS,eD];omega),I3 (by rw[eD,IS];omega)]
theorem GG{n a b:Int}(h:within n a b=true):a<=n/\n<=b:=by simpa[within] using h
theorem GH{base:Nat}{w:World}{v:Value}{L:List Mem}{m:Mem}(h:w.ownsRow base 52 5 v (L.length+1) (fl L++m.cs)):Own base w v (L++[m]):=by
 have e:fl (L++[m])=fl L++m.cs:=by rw[cU,bk];simp[fl]
 show w.ownsRow base 52 5 v (L++[m]).length (fl (L++[m]));rw[e,List.length_append];exact h
theorem Own.slice{base:Nat}{w:World}{v:Value}{ms:List Mem}(h:Own base w v ms):∃a c,v=J a ms.length c:=by
 rcases h.2 with⟨rfl,h0⟩|⟨g,c,cur,rfl,_⟩
 .exact⟨be,0,by rw[h0]⟩
 .exact⟨_,c,rfl⟩
theorem GI(rs:List bU)(v:Value)(most times:Int)(w:World)(hv:oj w v rs)(h0:eB rs=0)(hm:within most 1 20=true)(ht:within times 1 100=true)(abl:0<rs.length)(hT:sD rs v) :
 Calls AS 67 #[v,U O most,U O times] w λe w'=>∃(v1 v2:Value) (ord:List Nat),e=AT (Ip #[v1,v2,U O 0])/\jJ rs ord/\Own w.heap.size w' v1 (iw rs ord (min most.toNat rs.length))/\cV w.heap.size w' v2 ((bump rs ord (min most.toNat rs.length)).filter (eM times))/\Below w.heap.size w w':=by
 obtain⟨j0,T5,yW,We,hkb⟩:=info_parts Tryz.qm;have HV:Hid (oj w v rs):=hv;have HTT:Hid (sD rs v):=hT;have rC:1<=most/\most<=20:=by simp[within] at hm;omega
 obtain⟨rC,hm2⟩:=rC;obtain⟨CJ,_,A6,_⟩:=fI h0;have RR:Hid (iM rs):=A6;have kQ:=λ(w:World) (h:oj w v rs)=>hU rs v w h;rw[h0] at kQ;clear h0 hT A6;obtain⟨pa,ca,rfl,_,_⟩:=hv;generalize hN:rs.length=n at *;have HN:Hid _:=hN;clear hN;have tK:Below w.heap.size w (w.alloc (.cells #[U O times] 3)):=(Ib _ _).alloc (Ie _) _;go_enter Tryz.func67,Tryz.ntmps67;go_wp2_with fail;refine(kQ _ (HV.out.below tK)).mono ?_;rintro e w1 ⟨rfl,aC⟩;have c1:w1.cell? ⟨w.heap.size,0,be⟩=AI (U O times):=by
  rw[aC.cell (p:=⟨w.heap.size,0,be⟩) (by simp)];exact dh rfl
 have aZ:Hid _:=tK.trans (aC.mono (by simp));have dD:w.heap.size<w1.heap.size:=by have:=aC.size;simp at this;omega
 clear aC tK kQ;go_wp2_with (go_at_call 51;refine(cM _ _ _ _).mono ?_;rintro e w' ⟨rfl,rfl⟩;first|rw[hm]|rw[ht]);refine(hY rs _ _ (HV.out.below aZ.out) (by rw[HN.out];omega)).mono ?_;rintro e w3 ⟨v3,rfl,lA,bY⟩;have eG:Hid (cV _ _ _ _):=lA.base dD;have c3:w3.cell? ⟨w.heap.size,0,be⟩=AI (U O times):=by
  rw[bY.cell (p:=⟨w.heap.size,0,be⟩) (by simp only;omega)];exact c1
 have cF:Hid _:=aZ.out.trans (bY.mono aZ.out.size);have su:w.heap.size<w3.heap.size:=by have:=bY.size;omega
 clear bY lA c1;go_wp2_with fail;refine(HTT.out _ (HV.out.below cF.out)).mono ?_;rintro e w4 ⟨gt,ct,ord,rfl,abm,Ms,hcc,anz,eV⟩;have xc:Hid _:=abm;have Wf:Hid _:=Ms;have gC:Hid (Below w.heap.size w w4):=cF.out.trans (eV.mono cF.out.size);have C4:Hid (w4.cell? ⟨w.heap.size,0,be⟩=AI (U O times)):=by
  have h:=eV.cell (p:=⟨w.heap.size,0,be⟩) (by simp only;omega);exact h.trans c3
 have pB:Hid (cV _ _ _ _):=eG.out.below eV;have Wg:Hid (∀k,v3.ownBlock=AI k->k<w3.heap.size):=λk hk=>(eG.out.lt k hk).2;have nP:=eV.size;clear eV c3 eG Ms abm;obtain⟨g,c,A4⟩:∃g c,v3=J (AI ⟨g,0,be⟩) n c:=by
  rcases pB.out.2 with⟨_,h0⟩|⟨g,c,cur,h,_⟩
  .have:=HN.out;omega
  .exact⟨g,c,by rw[h,HN.out]⟩
 subst A4;obtain⟨dv,hgh⟩:=pB.out.lt g rfl;have mJ:=Wg.out g rfl;rw[HN.out] at hcc ⊢;have HGT:Hid _:=Iw w4 ⟨gt,0,be⟩ (Wf.out 0 (by rw[HN.out];exact abl));obtain⟨q,hq⟩:∃q:Nat,q=min most.toNat n:=⟨_,rfl⟩;have agt:min most (n:Int)=(q:Int):=by omega
 have Gn:q<=n:=by omega
 go_wp2_with fail;go_loopw [11,37] (λo i wr=>∃k:Nat,k<=q/\i=U O k/\Hid (Own w4.heap.size wr o (iw rs ord k))/\Hid (cV (w.heap.size+1) wr (J (AI ⟨g,0,be⟩) n c) (bump rs ord k))/\Hid (wr.cell? ⟨w.heap.size,0,be⟩=AI (U O times))/\Hid (∀j,j<rs.length->wr.cell? ⟨gt,j,be⟩=AI (U O (ord.getD j 0:Nat)))/\Hid (Below w.heap.size w wr)/\w4.heap.size<=wr.heap.size) (λ_ i _=>q-(intOf i).toNat)
 case atStart=>exact⟨0,IF _,rfl,(by rw[CP];exact cv _ _),(by rw[GD];exact pB.out),C4,Wf,gC,Ie _⟩
 case round=>
  obtain⟨k,hk,rfl,GJ,HRO,HCC,Wi,HB,cB⟩:=hrel;by_cases aX:k<q
  .have eJ:k<rs.length:=by rw[HN.out];omega
   have oc:=Wi.out k eJ;have cA:ord.getD k 0<n:=by have:=xc.out.lt eJ;rwa [HN.out] at this
   have aO:(bump rs ord k).length=n:=by rw[uR];exact HN.out
   obtain⟨d0,d1,d2,d3,d4,d5⟩:=rz HRO.out (ord.getD k 0) (by rw[aO];exact cA);rw[ql xc.out eJ] at d0 d1 d2 d3 d4 d5;have hRO:wr.ownsRow (w.heap.size+1) 111 6 (J (AI ⟨g,0,be⟩) n c) n (fD (bump rs ord k)):=by
    have h2:wr.ownsRow (w.heap.size+1) 111 6 (J (AI ⟨g,0,be⟩) n c) (bump rs ord k).length (fD (bump rs ord k)):=HRO.out;rw[aO] at h2;exact h2
   have tm:∀o,wr.frozen? ⟨g,o,be⟩=false:=λo=>Jc hRO o;have A6:=RR.out _ (xc.out.lt eJ);obtain⟨ht3,ht4⟩:=GG A6;have Wj:Hid (cV (w.heap.size+1) (wr.setCell ⟨g,ord.getD k 0*6+5,be⟩ (U O ((rs.getD (ord.getD k 0) dr).told+1))) (J (AI ⟨g,0,be⟩) n c) (bump rs ord (k+1))):=by
    have h3:=(IM hRO (ord.getD k 0*6+5) (U O ((rs.getD (ord.getD k 0) dr).told+1))).1;rw[Mr (by rw[aO];exact cA),ql xc.out eJ] at h3;show World.ownsRow _ _ _ _ _ (bump rs ord (k+1)).length _;rw[uR,HN.out,GF (by rw[xc.out.len];exact eJ),ft,ql xc.out eJ];exact h3
   have HTS:Hid (iw rs ord (k+1)=iw rs ord k++[(rs.getD (ord.getD k 0) dr).m]):=CQ (by rw[xc.out.len];exact eJ);have htl:(iw rs ord k).length<=20:=by unfold iw;rw[List.length_map,IE];omega
   obtain⟨oa,ocp,hvo⟩:=GJ.out.slice;subst hvo;clear hRO A6;generalize ord.getD k 0=T6 at *;generalize hrk:rs.getD T6 dr=rk at *;clear hrk;obtain⟨⟨nm,st,lf,ad,sv⟩,td⟩:=rk;simp only at d0 d1 d2 d3 d4 d5 ht3 ht4 Wj HTS;simp only[ID] at d0 d1 d2 d3 d4 d5;generalize iw rs ord k=TL at *;have HOT:Hid (∀ob,((wr.setCell ⟨g,T6*6+5,be⟩ (U O (td+1))).alloc ob).ownsRow w4.heap.size 52 5 (J oa TL.length ocp) TL.length (fl TL)):=λob=>
    Own.below (ms:=TL) (ownsRow_setCell_below GJ.out (a:=⟨g,T6*6+5,be⟩) hgh _) ((Ib _ _).alloc (Ie _) ob)
   have Gy:Hid (∀j,(J oa TL.length ocp).ownBlock=AI j->w4.heap.size<=j):=λj hj=>(GJ.out.lt j hj).1;clear GJ HRO;go_wp2_with (at_builtin;refine IZ _ rfl _ _ 45 rfl w4.heap.size 52 j0 _ 5 48 Tryz.underlying45 T5 yW We hkb rfl (by omega) _ TL.length (fl TL) rfl ?hown ⟨wr.heap.size,0,be⟩ 1 1 (Mem.mk nm st lf ad sv).cs rfl rfl ?hnews (cX _) ?h63 ?hbytes ?hbase ?_)
   case hown=>exact HOT.out _
   case hnews=>(intro j u hj;rw[Addr.add_lit];exact(dh (by simp)).trans (by simpa[Mem.cs] using hj))
   case h63=>(unfold maxLen;omega)
   case hbytes=>omega
   case hbase=>(simp;omega)
   intro v' w5 r1 r2 r3;have j9:Below w4.heap.size (wr.setCell ⟨g,T6*6+5,be⟩ (U O (td+1))) w5:=
    ((Ib w4.heap.size (wr.setCell ⟨g,T6*6+5,be⟩ (U O (td+1)))).alloc (by simpa using cB) _).grown r2 (by simp;omega) (λj hj=>Gy.out j hj)
   have R1:Hid (Own _ _ _ _):=GH r1;have P9:=(j9.block g hgh).symm;have R2:Hid (cV (w.heap.size+1) w5 (J (AI ⟨g,0,be⟩) n c) (bump rs ord (k+1))):=by
    obtain⟨h1,h2⟩:=Wj.out;refine⟨h1,?_⟩;rcases h2 with h2|⟨g',c',cur,hv,eX,hg,hr⟩
    .exact .inl h2
    .have VY:g'=g:=by simp only[Value.slice.injEq,Option.some.injEq,Addr.mk.injEq,and_true] at hv;exact hv.1.symm
     subst VY;exact .inr ⟨g',c',cur,hv,eX,by rw[<- P9];exact hg,hr⟩
   have R3:Hid (w5.cell? ⟨w.heap.size,0,be⟩=AI (U O times)):=by
    have h1:=j9.cell (p:=⟨w.heap.size,0,be⟩) (by simp only;omega);have h2:(wr.setCell ⟨g,T6*6+5,be⟩ (U O (td+1))).cell? ⟨w.heap.size,0,be⟩=wr.cell? ⟨w.heap.size,0,be⟩:=JX _ _ _ _ (by simp only;omega);exact h1.trans (h2.trans HCC.out)
   have R4:Hid (∀j,j<rs.length->w5.cell? ⟨gt,j,be⟩=AI (U O (ord.getD j 0:Nat))):=λj hj=>by
    have h1:=j9.cell (p:=⟨gt,j,be⟩) HGT.out;have h2:(wr.setCell ⟨g,T6*6+5,be⟩ (U O (td+1))).cell? ⟨gt,j,be⟩=wr.cell? ⟨gt,j,be⟩:=JX _ _ _ _ (by simp only;omega);exact h1.trans (h2.trans (Wi.out j hj))
   have R5:Hid _:=(HB.out.setCell (p:=⟨g,T6*6+5,be⟩) (by simp only;omega) _).trans (j9.mono (by omega));have abo:w4.heap.size<=w5.heap.size:=by have:=j9.size;simp at this;omega
   clear r1 r2 r3 j9 P9 Wj HOT Gy d0 d1 d2 d3 d4 d5 oc;go_wp2_with fail;exact⟨⟨k+1,by omega,by go_num,(by rw[HTS.out];exact R1.out),R2.out,R3.out,R4.out,R5.out,abo⟩,by simp[intOf];omega⟩
  .have hkq:k=q:=by omega
   subst hkq;have aO:(bump rs ord k).length=n:=by rw[uR];exact HN.out
   clear Wi;go_wp2_with fail;refine(uP (bump rs ord k) n g c w.heap.size (w.heap.size+1) times _ aO (by omega) HRO.out (by omega) (by omega) HCC.out).mono ?_;rintro e w6 ⟨m,rfl,ho6,tN,hf6⟩;have S1:Hid (Own w.heap.size w6 u11 (iw rs ord k)):=by
    obtain⟨h1,h2⟩:=GJ.out;refine⟨h1,?_⟩;rcases h2 with h2|⟨g',c',cur,hv,eX,hg,hr⟩
    .exact .inl h2
    .exact .inr ⟨g',c',cur,hv,by omega,by rw[hf6.2 g' (BY.1 hg).1 (by omega)];exact hg,hr⟩
   have S2:Hid (cV w.heap.size w6 (J (AI ⟨g,0,be⟩) m c) ((bump rs ord k).filter (eM times))):=ho6.base (by omega);have S3:Hid _:=HB.out.trans (tN.mono (by omega));clear ho6 tN hf6 GJ HRO HCC;go_wp2_with fail;go_ret3
   exact⟨_,_,ord,rfl,xc.out,by rw[<- hq];exact S1.out,by rw[<- hq];exact S2.out,S3.out⟩
end Go.Proofs.YtbfghimjdlpicaaGreatDoor
namespace Go.Proofs
open Go.Shelf
def Tryz.xT:Go.Shelf.Ren:=⟨fun|6=>167|15=>115|14=>203|28=>165|29=>166|20=>243|21=>244|22=>245|23=>246|24=>247|25=>248|26=>249|27=>250|46=>273|47=>206|48=>207|49=>274|50=>275|57=>287|n=>n,fun|22=>162|24=>3|25=>68|3=>3|39=>161|0=>0|53=>200|55=>202|4=>4|46=>207|45=>206|50=>154|5=>5|9=>9|66=>236|70=>240|76=>281|77=>282|n=>n,fun|n=>n⟩
theorem Tryz.T7:Go.Proofs.SlLaysF.n6 AS Tryz.xT:={
 mixed:=by kernel_rfl
 f6:=⟨Tryz.f167.name,by decide,Tryz.func167.trans (congrArg AI (by kernel_rfl))⟩
 f14:=⟨Tryz.f203.name,by decide,Tryz.func203.trans (congrArg AI (by kernel_rfl))⟩
 f15:=Tryz.func115.trans (congrArg AI (by kernel_rfl))
 f20:=⟨Tryz.f243.name,by decide,Tryz.func243.trans (congrArg AI (by kernel_rfl))⟩
 f21:=⟨Tryz.f244.name,by decide,Tryz.func244.trans (congrArg AI (by kernel_rfl))⟩
 f22:=⟨Tryz.f245.name,by decide,Tryz.func245.trans (congrArg AI (by kernel_rfl))⟩
 f23:=⟨Tryz.f246.name,by decide,Tryz.func246.trans (congrArg AI (by kernel_rfl))⟩
 f24:=⟨Tryz.f247.name,by decide,Tryz.func247.trans (congrArg AI (by kernel_rfl))⟩
 f25:=⟨Tryz.f248.name,by decide,Tryz.func248.trans (congrArg AI (by kernel_rfl))⟩
 f26:=⟨Tryz.f249.name,by decide,Tryz.func249.trans (congrArg AI (by kernel_rfl))⟩
 f27:=⟨Tryz.f250.name,by decide,Tryz.func250.trans (congrArg AI (by kernel_rfl))⟩
 f28:=Tryz.func165.trans (congrArg AI (by kernel_rfl))
 f29:=Tryz.func166.trans (congrArg AI (by kernel_rfl))
 f46:=⟨Tryz.f273.name,by decide,Tryz.func273.trans (congrArg AI (by kernel_rfl))⟩
 f47:=Tryz.func206.trans (congrArg AI (by kernel_rfl))
 f48:=Tryz.func207.trans (congrArg AI (by kernel_rfl))
 f49:=⟨Tryz.f274.name,by decide,Tryz.func274.trans (congrArg AI (by kernel_rfl))⟩
 f50:=⟨Tryz.f275.name,by decide,Tryz.func275.trans (congrArg AI (by kernel_rfl))⟩
 f57:=⟨Tryz.f287.name,by decide,Tryz.func287.trans (congrArg AI (by kernel_rfl))⟩
 t0:=Tryz.underlying0
 a0:=Tryz.isAgg0
 z0:=Tryz.sizeOf0
 v0:=Tryz.zeroValue0
 t3:=Tryz.underlying3
 a3:=OA
 z3:=Oi
 v3:=Tryz.zeroValue3
 t4:=Tryz.underlying4
 a4:=Tryz.isAgg4
 z4:=Tryz.sizeOf4
 v4:=Tryz.zeroValue4
 t5:=Tryz.underlying5
 a5:=Tryz.isAgg5
 z5:=Tryz.sizeOf5
 v5:=Tryz.zeroValue5
 t9:=Tryz.underlying9
 a9:=Tryz.isAgg9
 z9:=Tryz.sizeOf9
 v9:=Tryz.zeroValue9
 t22:=Tryz.underlying162
 a22:=Tryz.isAgg162
 z22:=Tryz.sizeOf162
 v22:=Tryz.zeroValue162
 a24:=OA
 z24:=Oi
 t25:=Tryz.underlying68
 a25:=Tryz.isAgg68
 z25:=Tryz.sizeOf68
 v25:=Tryz.zeroValue68
 t39:=Tryz.underlying161
 a39:=Tryz.isAgg161
 z39:=Tryz.sizeOf161
 v39:=Tryz.zeroValue161
 t45:=Tryz.underlying206
 a45:=Tryz.isAgg206
 z45:=Tryz.sizeOf206
 v45:=Tryz.zeroValue206
 t46:=Tryz.underlying207
 a46:=Tryz.isAgg207
 z46:=Tryz.sizeOf207
 v46:=Tryz.zeroValue207
 t50:=Tryz.underlying154
 a50:=Tryz.isAgg154
 z50:=Tryz.sizeOf154
 v50:=Tryz.zeroValue154
 t53:=Tryz.underlying200
 a53:=Tryz.isAgg200
 z53:=Tryz.sizeOf200
 v53:=Tryz.zeroValue200
 t55:=Tryz.underlying202
 a55:=Tryz.isAgg202
 z55:=Tryz.sizeOf202
 v55:=Tryz.zeroValue202
 t66:=Tryz.underlying236
 a66:=Tryz.isAgg236
 z66:=Tryz.sizeOf236
 v66:=Tryz.zeroValue236
 t70:=Tryz.underlying240
 a70:=Tryz.isAgg240
 z70:=Tryz.sizeOf240
 v70:=Tryz.zeroValue240
 t76:=Tryz.underlying281
 a76:=Tryz.isAgg281
 z76:=Tryz.sizeOf281
 v76:=Tryz.zeroValue281
 t77:=Tryz.underlying282
 a77:=Tryz.isAgg282
 z77:=Tryz.sizeOf282
 v77:=Tryz.zeroValue282 }
end Go.Proofs
namespace Go.Proofs.YtbfghimjdlpicaaGreatDoor
open Go.RowKit Go.Sort Go.Shelf Go.Lib
theorem EY(rs:List bU)(i k:Nat):cfR rs i k<0↔(rs.getD i dr).told<(rs.getD k dr).told\/((rs.getD i dr).told=(rs.getD k dr).told/\k<i):=by
 unfold cfR T4 uQ;generalize(rs.getD i dr).told=a;generalize(rs.getD k dr).told=b
 repeat' split
 all_goals omega
def T8(rs:List bU)(m:Nat)(x y:Fin (m+1)):Int:=cfR rs x.val y.val
theorem ltF(rs:List bU)(m:Nat)(x y:Fin (m+1)):ltOf (T8 rs m) x y=true↔(rs.getD x.val dr).told<(rs.getD y.val dr).told\/((rs.getD x.val dr).told=(rs.getD y.val dr).told/\y.val<x.val):=by
 unfold ltOf T8;rw[decide_eq_true_iff,EY]
theorem sE(rs:List bU)(m:Nat)(x y:Fin (m+1)):ltOf (T8 rs m) x y=false↔¬ ((rs.getD x.val dr).told<(rs.getD y.val dr).told\/((rs.getD x.val dr).told=(rs.getD y.val dr).told/\y.val<x.val)):=by
 rw[<- ltF,Bool.not_eq_true]
theorem agv(rs:List bU)(m:Nat):SWO (ltOf (T8 rs m)) where
 irrefl x:=by rw[sE];omega
 trans x y z h1 h2:=by rw[ltF] at *;omega
 ntrans x y z h1 h2:=by rw[sE] at *;omega
def sF(m:Nat)(x:Fin (m+1)):Value:=U O (x.val:Nat)
def mg(m:Nat):Array (Fin (m+1)):=Array.ofFn (λx=>x)
theorem ix(m:Nat):(mg m).size=m+1:=by simp[mg]
theorem A7(m j:Nat)(hj:j<m+1):(mg m)[j]! = ⟨j,hj⟩:=by
 rw[getElem!_pos _ j (by rw[ix];exact hj)];simp[mg]
theorem GK(m:Nat):(mg m).toList.map (·.val)=JC (m+1):=by
 apply List.ext_getElem
 .simp[mg]
 .intro j h1 h2
  rw[List.getElem_map,List.getElem_range,Array.getElem_toList];simp only[mg,Array.getElem_ofFn]
theorem CR(W:World)(o:Obj):(W.alloc o).drew=grow (W.drewN 1) #[o]:=by
 simp only[grow,World.alloc,World.drew,World.drewN,Array.push_eq_append]
theorem agw(rs:List bU)(m lb b off ca g:Nat)(w:World)(hn:rs.length=m+1)(hr:om w b off rs)(hl:w.cell? ⟨lb,0,be⟩=AI (J (AI ⟨b,off,be⟩) (m+1) ca))(h1:lb≠g)(h2:b≠g)(hb:b<w.heap.size) :
 CmpLays1 AS 168 #[If (AI ⟨lb,0,be⟩)] (sF m) (T8 rs m) g 0 (mg m).size w:=by
 intro q os dk hs x y;have lH:=Iw w _ hl;have c1:=(cell?_sortWorld_other (sF m) w g 0 q dk os ⟨lb,0,be⟩ h1 lH).trans hl;have c2:=(cell?_sortWorld_other (sF m) w g 0 q dk os ⟨b,off+x.val*6+5,be⟩ h2 hb).trans (hr x.val (by rw[hn];exact x.isLt)).2.2.2.2.2;have c3:=(cell?_sortWorld_other (sF m) w g 0 q dk os ⟨b,off+y.val*6+5,be⟩ h2 hb).trans (hr y.val (by rw[hn];exact y.isLt)).2.2.2.2.2;refine(GB _ _ lb b off (m+1) ca x.val y.val _ c1 x.isLt y.isLt c2 c3).mono ?_;rintro e w' ⟨rfl,rfl⟩;exact⟨rfl,1,_,CR _ _⟩
theorem Mt{rs:List bU}{m:Nat}{d':Array (Fin (m+1))}(hn:rs.length=m+1)(hp:PermIn 0 (mg m).size (mg m) d')(hs:SortedIn (ltOf (T8 rs m)) 0 (mg m).size d'):jJ rs (d'.toList.map (·.val)):=by
 obtain⟨cB,_,T9⟩:=hp;rw[Array.extract_size,show d'.extract 0 (mg m).size=d' by rw[<- cB,Array.extract_size]] at T9;have hP:(d'.toList.map (·.val)).Perm (JC rs.length):=by
  rw[hn,<- GK];exact T9.map _
 have hlen:(d'.toList.map (·.val)).length=m+1:=by rw[hP.length_eq,hn];simp
 have GL:=hP.nodup_iff.2 List.nodup_range;refine⟨hP,λi j jS hj=>?_⟩;have hds:d'.size=m+1:=by rw[cB,ix]
 have GC:j<d'.size:=by rw[hds];omega
 have hi':i<d'.size:=by omega
 have e1:(d'.toList.map (·.val)).getD i 0=d'[i].val:=by rw[rB (by omega)];simp
 have e2:(d'.toList.map (·.val)).getD j 0=d'[j].val:=by rw[rB hj];simp
 have aP:=Jb.1 GL i j (by omega) hj jS;simp only[List.getElem_map,Array.getElem_toList] at aP;have h:=hs i j (by omega) jS (by rw[ix];omega);rw[getElem!_pos d' j GC,getElem!_pos d' i hi',sE] at h;rw[e1,e2,EY];omega
abbrev A8(k:Nat):List Value:=(JC k).map (λj=>Value.int O (j:Nat))
theorem GM(k:Nat):A8 (k+1)=A8 k++[U O (k:Nat)]:=by simp[A8,List.range_succ]
theorem tO{m:Nat}{B:Nat}{w:World}{g off n:Nat}{d:Array (Fin (m+1))}{os:Array Obj}(hg:B<=g)(hB:B<=w.heap.size):Below B w (sortWorld (sF m) w g off n d os):=by
 refine⟨rfl,rfl,rfl,by simp[sortWorld,putRow,mapBlock,J8,grow],λk hk=>?_⟩;unfold sortWorld;rw[Go.Sort.heap_grow_old _ _ (by simp[putRow,mapBlock,J8];omega)]
 have:g≠k:=by omega
 simp[putRow,mapBlock,J8,Array.getElem?_modify,this]
theorem CS(rs:List bU)(v:Value)(m:Nat)(hn:rs.length=m+1)(xM:m<1000):sD rs v:=by
 intro w hv;obtain⟨i0,fH,dt,gJ,gB⟩:=info_parts Tryz.abq;obtain⟨pa,ca,rfl,_,ha⟩:=hv;obtain⟨b,off,V9,lH,hr⟩:∃b off,pa=AI ⟨b,off,be⟩/\b<w.heap.size/\om w b off rs:=by
  rcases ha with h|h
  .rw[h] at hn;simp at hn
  .exact h
 subst V9;have HR:Hid (om w b off rs):=hr;have HN:Hid _:=hn;rw[hn];clear ha hr hn;have eg:=enters_of Tryz.func168 (by kernel_rfl) rfl;have HEG:Hid _:=eg;clear eg;go_enter Tryz.func116,Tryz.ntmps116;go_wp2_with fail;go_loopw [3,7] (λo i wr=>∃k:Nat,k<=m+1/\i=U O k/\Hid (wr.ownsRow (w.heap.size+1) 3 1 o k (A8 k))/\Hid (Below (w.heap.size+1) (w.alloc (.cells #[J (AI ⟨b,off,be⟩) (m+1) ca] 46)) wr)) (λ_ i _=>m+1-(intOf i).toNat)
 case atStart=>exact⟨0,IF _,rfl,World.ownsRow_nil _ _ _ _,Ib _ _⟩
 case round=>
  obtain⟨k,hk,rfl,HO,HB⟩:=hrel;have cB:w.heap.size+1<=wr.heap.size:=by have:=HB.out.size;simpa using this
  by_cases aX:k<m+1
  .have ja:Hid (∀ob,(wr.alloc ob).ownsRow (w.heap.size+1) 3 1 u3 k (A8 k)):=λob=>by
    obtain⟨h1,h2⟩:=HO.out;refine⟨h1,?_⟩;rcases h2 with h2|⟨g,c,cur,hv,eX,hg,hr⟩
    .exact .inl h2
    .exact .inr ⟨g,c,cur,hv,eX,by rw[((Ib wr.heap.size wr).alloc (Ie _) ob).block g (BY.1 hg).1];exact hg,hr⟩
   have Gy:Hid (∀j,u3.ownBlock=AI j->w.heap.size+1<=j):=λj hj=>(OS HO.out j hj).1;clear HO;go_wp2_with (at_builtin;refine IZ _ rfl _ _ 162 rfl (w.heap.size+1) 3 i0 _ 1 8 Tryz.underlying162 fH dt gJ gB rfl (by omega) _ k (A8 k) rfl ?hown ⟨wr.heap.size,0,be⟩ 1 1 [U O k] rfl rfl ?hnews (by simp[Value.oneCell']) ?h63 ?hbytes ?hbase ?_)
   case hown=>exact ja.out _
   case hnews=>(intro j u hj;rw[Addr.add_lit];exact(dh rfl).trans (by simpa using hj))
   case h63=>(unfold maxLen;omega)
   case hbytes=>omega
   case hbase=>(simp;omega)
   intro v' w2 r1 r2 r3;have R1:Hid (w2.ownsRow (w.heap.size+1) 3 1 v' (k+1) (A8 (k+1))):=by rw[GM];exact r1
   have R2:Hid (Below (w.heap.size+1) (w.alloc (.cells #[J (AI ⟨b,off,be⟩) (m+1) ca] 46)) w2):=
    (HB.out.alloc cB _).grown r2 (by simp;omega) (λj hj=>Gy.out j hj)
   clear r1 r2 r3;go_wp2_with fail;exact⟨⟨k+1,by omega,by go_num,R1.out,R2.out⟩,by simp[intOf];omega⟩
  .have eJ:k=m+1:=by omega
   subst eJ;obtain⟨g,c,hu3,eX,et,gO,tm⟩:∃g c,u3=J (AI ⟨g,0,be⟩) (m+1) c/\w.heap.size+1<=g/\m+1<=c/\(∀j,j<m+1->wr.cell? ⟨g,j,be⟩=AI (U O (j:Nat)))/\(∀j,wr.frozen? ⟨g,j,be⟩=false):=by
    have hO:=HO.out;rcases HO.out.2 with⟨_,h0⟩|⟨g,c,cur,hv,eX,hg,gK,et,cE,bo⟩
    .omega
    .subst hv
     refine⟨g,c,rfl,eX,gK,λj hj=>?_,λj=>Jc hO j⟩;rw[OH hO j (by omega)];simp[A8,hj]
   subst hu3;have wW:=Iw wr ⟨g,0,be⟩ (gO 0 (by omega));have agz:wr.cell? ⟨w.heap.size,0,be⟩=AI (J (AI ⟨b,off,be⟩) (m+1) ca):=by
    rw[HB.out.cell (p:=⟨w.heap.size,0,be⟩) (by simp only;omega)];exact dh rfl
   have cL:=(HR.out.below ((Ib w.heap.size w).alloc (Ie _) _) lH).below HB.out (by omega);have rD:=Any.slices_SortFunc Tryz.T7 (sF m) (λ_=>rfl) (T8 rs m) (agv rs m) 168 #[If (AI ⟨w.heap.size,0,be⟩)] g 0 c (mg m) wr HEG.out (agw rs m w.heap.size b off ca g wr HN.out cL agz (by omega) (by omega) (by omega)) (λj hj=>by
    rw[ix] at hj;rw[A7 m j hj,ID];exact⟨gO j hj,tm j⟩) wW (by rw[ix];omega)
   have abr:Calls AS 167 #[J (AI ⟨g,0,be⟩) (m+1) c,.func (.func 168) #[] #[If (AI ⟨w.heap.size,0,be⟩)]] wr λe w'=>e=AT (Ip #[])/\∃d' n os,PermIn 0 (mg m).size (mg m) d'/\SortedIn (ltOf (T8 rs m)) 0 (mg m).size d'/\w'=sortWorld (sF m) wr g 0 n d' os:=by
    have h:=rD;rw[show J (AI ⟨g,0,be⟩) (mg m).size c=J (AI ⟨g,0,be⟩) (m+1) c by rw[ix]] at h;exact h
   have HHH:Hid (Holds (sF m) wr g 0 (mg m)):=λj hj=>by
    rw[ix] at hj;rw[A7 m j hj,ID];exact⟨gO j hj,tm j⟩
   clear rD gO tm cL HO;go_wp2_with fail;refine abr.mono ?_;rintro e w2 ⟨rfl,d',nd,os,hp,hs,uS⟩;have xc:Hid _:=Mt HN.out hp hs;have hds:d'.size=m+1:=by rw[hp.1,ix]
   have Wf:Hid (∀j,j<m+1->w2.cell? ⟨g,j,be⟩=AI (U O ((d'.toList.map (·.val)).getD j 0:Nat))):=λj hj=>by
    have h1:=cell?_putRow (sF m) (J8 wr nd) g 0 (mg m) d' (show Holds (sF m) (J8 wr nd) g 0 (mg m) from HHH.out) hp.1 j (by omega);have h2:w2.cell? ⟨g,0+j,be⟩=(putRow (sF m) (J8 wr nd) g 0 d').cell? ⟨g,0+j,be⟩:=by
     rw[uS];exact cell?_grow _ _ _ (by
      have h3:=Iw (putRow (sF m) (J8 wr nd) g 0 d') ⟨g,0+j,be⟩ h1;exact h3)
    rw[ID] at h1 h2;rw[h2,h1,getElem!_pos d' j (by omega)];simp[sF,Ir,hds,hj]
   have P8:Hid (Below w.heap.size w w2):=by
    rw[uS];exact(((Ib w.heap.size w).alloc (Ie _) _).trans (HB.out.mono (Nat.le_succ _))).trans (tO (by omega) (by omega))
   clear HHH hp hs uS;go_wp2_with fail;go_ret;exact⟨g,c,d'.toList.map (·.val),rfl,xc.out,Wf.out,et,by omega,P8.out⟩
end Go.Proofs.YtbfghimjdlpicaaGreatDoor
