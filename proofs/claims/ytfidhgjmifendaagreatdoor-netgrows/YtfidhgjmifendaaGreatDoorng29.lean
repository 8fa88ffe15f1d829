import Derived.Test.YtfidhgjmifendaaGreatDoorng21
import Derived.Shelf.SlSortFunc.HeapSort
set_option maxHeartbeats 6400000
set_option maxRecDepth 100000
open Go.Value renaming int→U,slice→J,pointer→If
open Go.IntKind renaming i64→O
open Go.Ending renaming returned→AT
open Go.Proofs.Tryz renaming prog→AS,ntmps129→Q3,isAgg3→OS,sizeOf3→OD
open Option renaming none→be,some→AI
open Go renaming wp_loop_rounds→J8,rounds_succ→JQ,wpList_append_own→Ja
open Go.World renaming new_ne→QN,block_lt_of_cell?→Iy,cell?_setCell_far→JO
open List renaming range→JC,getD→Iq,length_take→IB,pairwise_iff_getElem→I5,foldl_cons→OA,length_set→IT,getElem?_set_ne→JP,getElem?_set_self→Oh,getElem?_eq_none→I0
open Go.RowKit.Below renaming refl→Ib
open Nat renaming le_refl→Ic,zero_le→IH,zero_add→ID
open Go.World.ownsRow renaming frozenAt→I7,stored→IK,lt→OI,cellAt→Ox
open Array renaming getElem?_eq_some_iff→BY
open Go.Sort renaming ahead→J0
namespace Go.Proofs.YtfidhgjmifendaaGreatDoor
open Go.RowKit
def tA(a b:Int):Int:=if a<b then -1 else if b<a then 1 else 0
theorem xo(a b:Int)(w:World) :
 Calls AS 130 #[U O a,U O b] w λe w'=>e=AT (U O (tA a b))/\w'=w:=by
 go_enter Tryz.func130,Tryz.ntmps130;go_wp2;all_goals
  go_ret;exact⟨ai (by unfold tA;(repeat' split)<;>omega),rfl⟩
def PQ(a b:Int):Int:=if a=0 then b else a
theorem BA(a b:Int)(g:Nat)(c:Nat)(w:World)(h0:w.cell? ⟨g,0,be⟩=AI (U O a))(h1:w.cell? ⟨g,1,be⟩=AI (U O b)) :
 Calls AS 129 #[J (AI ⟨g,0,be⟩) 2 c] w λe w'=>e=AT (U O (PQ a b))/\w'=w:=by
 by_cases ha:a=0
 .subst ha
  by_cases hb:b=0
  .subst hb
   go_enter Tryz.func129,Q3;go_wp2_with fail;refine J8 3 ?_;rw[JQ];go_wp2_with fail;rw[JQ];go_wp2_with fail;rw[JQ];go_wp2_with fail;go_ret;exact⟨rfl,rfl⟩
  .have wA:(b !=0)=true:=by simpa using hb
   go_enter Tryz.func129,Q3;go_wp2_with fail;refine J8 3 ?_;rw[JQ];go_wp2_with fail;rw[JQ];go_wp2_with fail;go_ret;exact⟨rfl,rfl⟩
 .have ha':(a !=0)=true:=by simpa using ha
  go_enter Tryz.func129,Q3;go_wp2_with fail;refine J8 3 ?_;rw[JQ];go_wp2_with fail;go_ret;exact⟨ai (by unfold PQ;rw[if_neg ha]),rfl⟩
def cfR(rs:List bK)(i k:Nat):Int:=PQ (tA (rs.getD i dr).told (rs.getD k dr).told) (tA k i)
theorem Em(ti tk:Int)(lb b off n ca i k:Nat)(w:World)(hl:w.cell? ⟨lb,0,be⟩=AI (J (AI ⟨b,off,be⟩) n ca))(hi:i<n)(hk:k<n)(Mz:w.cell? ⟨b,off+i*6+5,be⟩=AI (U O ti))(M4:w.cell? ⟨b,off+k*6+5,be⟩=AI (U O tk)) :
 Calls AS 128 #[U O i,U O k,If (AI ⟨lb,0,be⟩)] w λe w'=>e=AT (U O (PQ (tA ti tk) (tA k i)))/\w'=(w.alloc (.cells #[U O (tA ti tk),U O (tA k i)] 3)).drew:=by
 have fW:(0:Int)<=(i:Int):=Int.natCast_nonneg _;have hi1:(i:Int)<(n:Int):=by omega
 have vq:(0:Int)<=(k:Int):=Int.natCast_nonneg _;have jj:(k:Int)<(n:Int):=by omega
 have h1:=QN w _ hl;have h2:=QN w _ Mz;have h3:=QN w _ M4;go_enter Tryz.func128,Tryz.ntmps128;go_wp2_with fail;go_region_held3 (λw'=>w'.cell? ⟨lb,0,be⟩=AI (J (AI ⟨b,off,be⟩) n ca)/\w'.cell? ⟨b,off+i*6+5,be⟩=AI (U O ti)/\w'.cell? ⟨b,off+k*6+5,be⟩=AI (U O tk)) (go_keep) (first|(go_at_call 130;refine(xo _ _ _).mono ?_;rintro e w' ⟨rfl,rfl⟩)|(go_at_call 129;refine(BA (tA ti tk) (tA k i) _ _ _ (cR rfl) (cR rfl)).mono ?_;rintro e w' ⟨rfl,rfl⟩))
 go_wp2_with fail;go_ret;exact⟨rfl,rfl⟩
structure iQ(rs:List bK)(ord:List Nat):Prop where
 perm:ord.Perm (JC rs.length)
 less:∀i j,i<j->j<ord.length->cfR rs (ord.getD i 0) (ord.getD j 0)<0
theorem iQ.len{rs:List bK}{ord:List Nat}(h:iQ rs ord):ord.length=rs.length:=by rw[h.perm.length_eq];simp
theorem iQ.bd{rs:List bK}{ord:List Nat}(h:iQ rs ord):∀x∈ord,x<rs.length:=λx hx=>by simpa using h.perm.mem_iff.1 hx
theorem iQ.nodup{rs:List bK}{ord:List Nat}(h:iQ rs ord):ord.Nodup:=h.perm.nodup_iff.2 List.nodup_range
theorem pL{ord:List Nat}{j:Nat}(h:j<ord.length):ord.getD j 0=ord[j]:=by simp[Iq,List.getElem?_eq_getElem h]
theorem iQ.lt{rs:List bK}{ord:List Nat}(h:iQ rs ord){j:Nat}(hj:j<rs.length):ord.getD j 0<rs.length:=by
 have Ef:j<ord.length:=by rw[h.len];exact hj
 rw[pL Ef];exact h.bd _ (List.getElem_mem Ef)
theorem iQ.fresh{rs:List bK}{ord:List Nat}(h:iQ rs ord){j:Nat}(hj:j<rs.length):ord.getD j 0 ∉ ord.take j:=by
 have Ef:j<ord.length:=by rw[h.len];exact hj
 rw[pL Ef];intro hm;obtain⟨i,hi,e⟩:=List.getElem_of_mem hm;rw[IB] at hi;rw[List.getElem_take] at e;exact I5.1 h.nodup i j (by omega) Ef (by omega) e
def eM(l:List bK)(i:Nat):List bK:=l.set i ⟨(l.getD i dr).m,(l.getD i dr).told+1⟩
def bump(rs:List bK)(ord:List Nat)(k:Nat):List bK:=(ord.take k).foldl eM rs
def gB(rs:List bK)(ord:List Nat)(k:Nat):List Mem:=(ord.take k).map (λi=>(rs.getD i dr).m)
theorem En(rs:List bK)(ord:List Nat):bump rs ord 0=rs:=by simp[bump]
theorem BB(rs:List bK)(ord:List Nat):gB rs ord 0=[]:=by simp[gB]
theorem zo{ord:List Nat}{k:Nat}(h:k<ord.length):ord.take (k+1)=ord.take k++[ord.getD k 0]:=by
 rw[List.take_succ_eq_append_getElem h,pL h]
theorem Eo{rs:List bK}{ord:List Nat}{k:Nat}(h:k<ord.length):bump rs ord (k+1)=eM (bump rs ord k) (ord.getD k 0):=by
 unfold bump;rw[zo h,List.foldl_append];rfl
theorem BC{rs:List bK}{ord:List Nat}{k:Nat}(h:k<ord.length):gB rs ord (k+1)=gB rs ord k++[(rs.getD (ord.getD k 0) dr).m]:=by
 unfold gB;rw[zo h,List.map_append];rfl
theorem vN:∀(is:List Nat) (l:List bK),(is.foldl eM l).length=l.length
 |[],_=>rfl
 |i::r,l=>by rw[OA,vN r,eM,IT]
theorem tB(rs:List bK)(ord:List Nat)(k:Nat):(bump rs ord k).length=rs.length:=vN _ _
theorem rf:∀(is:List Nat) (l:List bK) (j:Nat),j ∉ is->(is.foldl eM l).getD j dr=l.getD j dr
 |[],_,_,_=>rfl
 |i::r,l,j,h=>by
  simp only[List.mem_cons,not_or] at h;rw[OA,rf r _ j h.2,eM];simp[Iq,JP (Ne.symm h.1)]
theorem oy{rs:List bK}{ord:List Nat}(h:iQ rs ord){k:Nat}(hk:k<rs.length):(bump rs ord k).getD (ord.getD k 0) dr=rs.getD (ord.getD k 0) dr:=
 rf _ _ _ (h.fresh hk)
def qD(rs:List bK)(v:Value):Prop:=∀w,mG w v rs->Calls AS 73 #[v] w λe w'=>∃(g c:Nat) (ord:List Nat),e=AT (J (AI ⟨g,0,be⟩) rs.length c)/\iQ rs ord/\(∀j,j<rs.length->w'.cell? ⟨g,j,be⟩=AI (U O (ord.getD j 0:Nat)))/\rs.length<=c/\w.heap.size<=g/\Below w.heap.size w w'
theorem Kv{rs:List bK}{p:Nat}(hp:p<rs.length)(t:Int):(eR rs).set (p*6+5) (U O t)=eR (rs.set p ⟨(rs.getD p dr).m,t⟩):=by
 apply List.ext_getElem?;intro k;by_cases hk:k<rs.length*6
 .have h2:=lI (rs.set p ⟨(rs.getD p dr).m,t⟩) (k/6) (by rw[IT];omega) (k%6) (by omega)
  rw[show k/6*6+k%6=k by omega] at h2;have h4:=lI rs (k/6) (by omega) (k%6) (by omega);rw[show k/6*6+k%6=k by omega] at h4;rw[h2];by_cases hkp:k/6=p
  .rw[show(rs.set p ⟨(rs.getD p dr).m,t⟩).getD (k/6) dr=⟨(rs.getD p dr).m,t⟩ by rw[hkp];simp[Iq,Oh hp]]
   rw[hkp] at h4;by_cases h5:k%6=5
   .rw[show p*6+5=k by omega,Oh (by rw[dX];omega),h5]
    rfl
   .rw[JP (by omega),h4]
    have h6:k%6<5:=by omega
    generalize k%6=q at h6
    match q,h6 with
    |0,_=>rfl
    |1,_=>rfl
    |2,_=>rfl
    |3,_=>rfl
    |4,_=>rfl
  .rw[show(rs.set p ⟨(rs.getD p dr).m,t⟩).getD (k/6) dr=rs.getD (k/6) dr by simp[Iq,JP (Ne.symm hkp)],JP (by omega),h4]
 .rw[I0 (by rw[IT,dX];omega),I0 (by rw[dX,IT];omega)]
theorem Ep{n a b:Int}(h:within n a b=true):a<=n/\n<=b:=by simpa[within] using h
theorem Es{base:Nat}{w:World}{v:Value}{L:List Mem}{m:Mem}(h:w.ownsRow base 50 5 v (L.length+1) (fl L++m.cs)):Own base w v (L++[m]):=by
 have e:fl (L++[m])=fl L++m.cs:=by rw[cD,aZ];simp[fl]
 show w.ownsRow base 50 5 v (L++[m]).length (fl (L++[m]));rw[e,List.length_append];exact h
theorem Own.slice{base:Nat}{w:World}{v:Value}{ms:List Mem}(h:Own base w v ms):∃a c,v=J a ms.length c:=by
 rcases h.2 with⟨rfl,h0⟩|⟨g,c,cur,rfl,_⟩
 .exact⟨be,0,by rw[h0]⟩
 .exact⟨_,c,rfl⟩
theorem Et(rs:List bK)(v:Value)(most times:Int)(w:World)(hv:mG w v rs)(h0:dV rs=0)(hm:within most 1 20=true)(ht:within times 1 100=true)(Wf:0<rs.length)(hT:qD rs v) :
 Calls AS 46 #[v,U O most,U O times] w λe w'=>∃(v1 v2:Value) (ord:List Nat),e=AT (.tuple #[v1,v2,U O 0])/\iQ rs ord/\Own w.heap.size w' v1 (gB rs ord (min most.toNat rs.length))/\cE w.heap.size w' v2 ((bump rs ord (min most.toNat rs.length)).filter (ei times))/\Below w.heap.size w w':=by
 obtain⟨j0,PN,vq,SK,Vm⟩:=info_parts Tryz.oe;have HV:Hid (mG w v rs):=hv;have HTT:Hid (qD rs v):=hT;have po:1<=most/\most<=20:=by simp[within] at hm;omega
 obtain⟨po,hm2⟩:=po;obtain⟨Bf,_,zp,_⟩:=fG h0;have MT:Hid (gR rs):=zp;have jN:=λ(w:World) (h:mG w v rs)=>gf rs v w h;rw[h0] at jN;clear h0 hT zp;obtain⟨pa,ca,rfl,_,_⟩:=hv;generalize hN:rs.length=n at *;have HN:Hid _:=hN;clear hN;have rH:Below w.heap.size w (w.alloc (.cells #[U O times] 3)):=(Ib _ _).alloc (Ic _) _;go_enter Tryz.func46,Tryz.ntmps46;go_wp2_with fail;refine(jN _ (HV.out.below rH)).mono ?_;rintro e w1 ⟨rfl,aB⟩;have c1:w1.cell? ⟨w.heap.size,0,be⟩=AI (U O times):=by
  rw[aB.cell (p:=⟨w.heap.size,0,be⟩) (by simp)];exact cR rfl
 have aY:Hid _:=rH.trans (aB.mono (by simp));have cX:w.heap.size<w1.heap.size:=by have:=aB.size;simp at this;omega
 clear aB rH jN;go_wp2_with (go_at_call 54;refine(cf _ _ _ _).mono ?_;rintro e w' ⟨rfl,rfl⟩;first|rw[hm]|rw[ht]);refine(gh rs _ _ (HV.out.below aY.out) (by rw[HN.out];omega)).mono ?_;rintro e w3 ⟨v3,rfl,kZ,bU⟩;have dY:Hid (cE _ _ _ _):=kZ.base cX;have c3:w3.cell? ⟨w.heap.size,0,be⟩=AI (U O times):=by
  rw[bU.cell (p:=⟨w.heap.size,0,be⟩) (by simp only;omega)];exact c1
 have cF:Hid _:=aY.out.trans (bU.mono aY.out.size);have qb:w.heap.size<w3.heap.size:=by have:=bU.size;omega
 clear bU kZ c1;go_wp2_with fail;refine(HTT.out _ (HV.out.below cF.out)).mono ?_;rintro e w4 ⟨gt,ct,ord,rfl,Wg,Hu,hcc,alh,eP⟩;have uU:Hid _:=Wg;have SL:Hid _:=Hu;have fE:Hid (Below w.heap.size w w4):=cF.out.trans (eP.mono cF.out.size);have C4:Hid (w4.cell? ⟨w.heap.size,0,be⟩=AI (U O times)):=by
  have h:=eP.cell (p:=⟨w.heap.size,0,be⟩) (by simp only;omega);exact h.trans c3
 have nD:Hid (cE _ _ _ _):=dY.out.below eP;have Sf:Hid (∀k,v3.ownBlock=AI k->k<w3.heap.size):=λk hk=>(dY.out.lt k hk).2;have mj:=eP.size;clear eP c3 dY Hu Wg;obtain⟨g,c,yS⟩:∃g c,v3=J (AI ⟨g,0,be⟩) n c:=by
  rcases nD.out.2 with⟨_,h0⟩|⟨g,c,cur,h,_⟩
  .have:=HN.out;omega
  .exact⟨g,c,by rw[h,HN.out]⟩
 subst yS;obtain⟨di,hgh⟩:=nD.out.lt g rfl;have lh:=Sf.out g rfl;rw[HN.out] at hcc ⊢;have HGT:Hid _:=Iy w4 ⟨gt,0,be⟩ (SL.out 0 (by rw[HN.out];exact Wf));obtain⟨q,hq⟩:∃q:Nat,q=min most.toNat n:=⟨_,rfl⟩;have adN:min most (n:Int)=(q:Int):=by omega
 have Ea:q<=n:=by omega
 go_wp2_with fail;go_loopw [11,37] (λo i wr=>∃k:Nat,k<=q/\i=U O k/\Hid (Own w4.heap.size wr o (gB rs ord k))/\Hid (cE (w.heap.size+1) wr (J (AI ⟨g,0,be⟩) n c) (bump rs ord k))/\Hid (wr.cell? ⟨w.heap.size,0,be⟩=AI (U O times))/\Hid (∀j,j<rs.length->wr.cell? ⟨gt,j,be⟩=AI (U O (ord.getD j 0:Nat)))/\Hid (Below w.heap.size w wr)/\w4.heap.size<=wr.heap.size) (λ_ i _=>q-(intOf i).toNat)
 case atStart=>exact⟨0,IH _,rfl,(by rw[BB];exact bX _ _),(by rw[En];exact nD.out),C4,SL,fE,Ic _⟩
 case round=>
  obtain⟨k,hk,rfl,Eu,Wi,HCC,SM,HB,cC⟩:=hrel;by_cases aR:k<q
  .have gK:k<rs.length:=by rw[HN.out];omega
   have oc:=SM.out k gK;have cH:ord.getD k 0<n:=by have:=uU.out.lt gK;rwa [HN.out] at this
   have aN:(bump rs ord k).length=n:=by rw[tB];exact HN.out
   obtain⟨d0,d1,d2,d3,d4,d5⟩:=o9 Wi.out (ord.getD k 0) (by rw[aN];exact cH);rw[oy uU.out gK] at d0 d1 d2 d3 d4 d5;have hRO:wr.ownsRow (w.heap.size+1) 111 6 (J (AI ⟨g,0,be⟩) n c) n (eR (bump rs ord k)):=by
    have h2:wr.ownsRow (w.heap.size+1) 111 6 (J (AI ⟨g,0,be⟩) n c) (bump rs ord k).length (eR (bump rs ord k)):=Wi.out;rw[aN] at h2;exact h2
   have qT:∀o,wr.frozen? ⟨g,o,be⟩=false:=λo=>I7 hRO o;have zp:=MT.out _ (uU.out.lt gK);obtain⟨ht3,ht4⟩:=Ep zp;have SN:Hid (cE (w.heap.size+1) (wr.setCell ⟨g,ord.getD k 0*6+5,be⟩ (U O ((rs.getD (ord.getD k 0) dr).told+1))) (J (AI ⟨g,0,be⟩) n c) (bump rs ord (k+1))):=by
    have h3:=(IK hRO (ord.getD k 0*6+5) (U O ((rs.getD (ord.getD k 0) dr).told+1))).1;rw[Kv (by rw[aN];exact cH),oy uU.out gK] at h3;show World.ownsRow _ _ _ _ _ (bump rs ord (k+1)).length _;rw[tB,HN.out,Eo (by rw[uU.out.len];exact gK),eM,oy uU.out gK];exact h3
   have HTS:Hid (gB rs ord (k+1)=gB rs ord k++[(rs.getD (ord.getD k 0) dr).m]):=BC (by rw[uU.out.len];exact gK);have htl:(gB rs ord k).length<=20:=by unfold gB;rw[List.length_map,IB];omega
   obtain⟨oa,ocp,hvo⟩:=Eu.out.slice;subst hvo;clear hRO zp;generalize ord.getD k 0=PR at *;generalize hrk:rs.getD PR dr=rk at *;clear hrk;obtain⟨⟨nm,st,lf,ad,sv⟩,td⟩:=rk;simp only at d0 d1 d2 d3 d4 d5 ht3 ht4 SN HTS;simp only[ID] at d0 d1 d2 d3 d4 d5;generalize gB rs ord k=TL at *;have HOT:Hid (∀ob,((wr.setCell ⟨g,PR*6+5,be⟩ (U O (td+1))).alloc ob).ownsRow w4.heap.size 50 5 (J oa TL.length ocp) TL.length (fl TL)):=λob=>
    Own.below (ms:=TL) (ownsRow_setCell_below Eu.out (a:=⟨g,PR*6+5,be⟩) hgh _) ((Ib _ _).alloc (Ic _) ob)
   have LX:Hid (∀j,(J oa TL.length ocp).ownBlock=AI j->w4.heap.size<=j):=λj hj=>(Eu.out.lt j hj).1;clear Eu Wi;go_wp2_with (at_builtin;refine Ja _ rfl _ _ 34 rfl w4.heap.size 50 j0 _ 5 48 Tryz.underlying34 PN vq SK Vm rfl (by omega) _ TL.length (fl TL) rfl ?hown ⟨wr.heap.size,0,be⟩ 1 1 (Mem.mk nm st lf ad sv).cs rfl rfl ?hnews (db _) ?h63 ?hbytes ?hbase ?_)
   case hown=>exact HOT.out _
   case hnews=>(intro j u hj;rw[Addr.add_lit];exact(cR (by simp)).trans (by simpa[Mem.cs] using hj))
   case h63=>(unfold maxLen;omega)
   case hbytes=>omega
   case hbase=>(simp;omega)
   intro v' w5 r1 r2 r3;have jz:Below w4.heap.size (wr.setCell ⟨g,PR*6+5,be⟩ (U O (td+1))) w5:=
    ((Ib w4.heap.size (wr.setCell ⟨g,PR*6+5,be⟩ (U O (td+1)))).alloc (by simpa using cC) _).grown r2 (by simp;omega) (λj hj=>LX.out j hj)
   have R1:Hid (Own _ _ _ _):=Es r1;have LN:=(jz.block g hgh).symm;have R2:Hid (cE (w.heap.size+1) w5 (J (AI ⟨g,0,be⟩) n c) (bump rs ord (k+1))):=by
    obtain⟨h1,h2⟩:=SN.out;refine⟨h1,?_⟩;rcases h2 with h2|⟨g',c',cur,hv,ey,hg,hr⟩
    .exact .inl h2
    .have Vn:g'=g:=by simp only[Value.slice.injEq,Option.some.injEq,Addr.mk.injEq,and_true] at hv;exact hv.1.symm
     subst Vn;exact .inr ⟨g',c',cur,hv,ey,by rw[<- LN];exact hg,hr⟩
   have R3:Hid (w5.cell? ⟨w.heap.size,0,be⟩=AI (U O times)):=by
    have h1:=jz.cell (p:=⟨w.heap.size,0,be⟩) (by simp only;omega);have h2:(wr.setCell ⟨g,PR*6+5,be⟩ (U O (td+1))).cell? ⟨w.heap.size,0,be⟩=wr.cell? ⟨w.heap.size,0,be⟩:=JO _ _ _ _ (by simp only;omega);exact h1.trans (h2.trans HCC.out)
   have R4:Hid (∀j,j<rs.length->w5.cell? ⟨gt,j,be⟩=AI (U O (ord.getD j 0:Nat))):=λj hj=>by
    have h1:=jz.cell (p:=⟨gt,j,be⟩) HGT.out;have h2:(wr.setCell ⟨g,PR*6+5,be⟩ (U O (td+1))).cell? ⟨gt,j,be⟩=wr.cell? ⟨gt,j,be⟩:=JO _ _ _ _ (by simp only;omega);exact h1.trans (h2.trans (SM.out j hj))
   have R5:Hid _:=(HB.out.setCell (p:=⟨g,PR*6+5,be⟩) (by simp only;omega) _).trans (jz.mono (by omega));have V9:w4.heap.size<=w5.heap.size:=by have:=jz.size;simp at this;omega
   clear r1 r2 r3 jz LN SN HOT LX d0 d1 d2 d3 d4 d5 oc;go_wp2_with fail;exact⟨⟨k+1,by omega,by go_num,(by rw[HTS.out];exact R1.out),R2.out,R3.out,R4.out,R5.out,V9⟩,by simp[intOf];omega⟩
  .have hkq:k=q:=by omega
   subst hkq;have aN:(bump rs ord k).length=n:=by rw[tB];exact HN.out
   clear SM;go_wp2_with fail;refine(s9 (bump rs ord k) n g c w.heap.size (w.heap.size+1) times _ aN (by omega) Wi.out (by omega) (by omega) HCC.out).mono ?_;rintro e w6 ⟨m,rfl,Wb,rK,hf6⟩;have S1:Hid (Own w.heap.size w6 u11 (gB rs ord k)):=by
    obtain⟨h1,h2⟩:=Eu.out;refine⟨h1,?_⟩;rcases h2 with h2|⟨g',c',cur,hv,ey,hg,hr⟩
    .exact .inl h2
    .exact .inr ⟨g',c',cur,hv,by omega,by rw[hf6.2 g' (BY.1 hg).1 (by omega)];exact hg,hr⟩
   have S2:Hid (cE w.heap.size w6 (J (AI ⟨g,0,be⟩) m c) ((bump rs ord k).filter (ei times))):=Wb.base (by omega);have S3:Hid _:=HB.out.trans (rK.mono (by omega));clear Wb rK hf6 Eu Wi HCC;go_wp2_with fail;go_ret3
   exact⟨_,_,ord,rfl,uU.out,by rw[<- hq];exact S1.out,by rw[<- hq];exact S2.out,S3.out⟩
end Go.Proofs.YtfidhgjmifendaaGreatDoor
namespace Go.Proofs
open Go.Shelf
def Tryz.vO:Go.Shelf.Ren:=⟨fun|6=>127|15=>71|14=>192|28=>123|29=>124|20=>222|21=>223|22=>224|23=>225|24=>226|25=>227|26=>228|27=>229|46=>256|47=>195|48=>196|49=>257|50=>258|57=>283|n=>n,fun|22=>131|24=>3|25=>51|3=>3|39=>129|0=>0|53=>165|55=>167|4=>4|46=>174|45=>173|50=>153|5=>5|9=>9|66=>225|70=>229|76=>262|77=>263|n=>n,fun|n=>n⟩
theorem Tryz.PS:Go.Proofs.SlLaysF.n6 AS Tryz.vO:={
 mixed:=by kernel_rfl
 f6:=⟨Tryz.f127.name,by decide,Tryz.func127.trans (congrArg AI (by kernel_rfl))⟩
 f14:=⟨Tryz.f192.name,by decide,Tryz.func192.trans (congrArg AI (by kernel_rfl))⟩
 f15:=Tryz.func71.trans (congrArg AI (by kernel_rfl))
 f20:=⟨Tryz.f222.name,by decide,Tryz.func222.trans (congrArg AI (by kernel_rfl))⟩
 f21:=⟨Tryz.f223.name,by decide,Tryz.func223.trans (congrArg AI (by kernel_rfl))⟩
 f22:=⟨Tryz.f224.name,by decide,Tryz.func224.trans (congrArg AI (by kernel_rfl))⟩
 f23:=⟨Tryz.f225.name,by decide,Tryz.func225.trans (congrArg AI (by kernel_rfl))⟩
 f24:=⟨Tryz.f226.name,by decide,Tryz.func226.trans (congrArg AI (by kernel_rfl))⟩
 f25:=⟨Tryz.f227.name,by decide,Tryz.func227.trans (congrArg AI (by kernel_rfl))⟩
 f26:=⟨Tryz.f228.name,by decide,Tryz.func228.trans (congrArg AI (by kernel_rfl))⟩
 f27:=⟨Tryz.f229.name,by decide,Tryz.func229.trans (congrArg AI (by kernel_rfl))⟩
 f28:=Tryz.func123.trans (congrArg AI (by kernel_rfl))
 f29:=Tryz.func124.trans (congrArg AI (by kernel_rfl))
 f46:=⟨Tryz.f256.name,by decide,Tryz.func256.trans (congrArg AI (by kernel_rfl))⟩
 f47:=Tryz.func195.trans (congrArg AI (by kernel_rfl))
 f48:=Tryz.func196.trans (congrArg AI (by kernel_rfl))
 f49:=⟨Tryz.f257.name,by decide,Tryz.func257.trans (congrArg AI (by kernel_rfl))⟩
 f50:=⟨Tryz.f258.name,by decide,Tryz.func258.trans (congrArg AI (by kernel_rfl))⟩
 f57:=⟨Tryz.f283.name,by decide,Tryz.func283.trans (congrArg AI (by kernel_rfl))⟩
 t0:=Tryz.underlying0
 a0:=Tryz.isAgg0
 z0:=Tryz.sizeOf0
 v0:=Tryz.zeroValue0
 t3:=Tryz.underlying3
 a3:=OS
 z3:=OD
 v3:=Tryz.zeroValue3
 t4:=Tryz.underlying4
 a4:=Tryz.isAgg4
 z4:=Tryz.sizeOf4
 v4:=Tryz.zeroValue4
 t5:=Tryz.underlying5
 a5:=Tryz.isAgg5
 z5:=Tryz.sizeOf5
 v5:=Tryz.zeroValue5
 t9:=Tryz.underlying9
 a9:=Tryz.isAgg9
 z9:=Tryz.sizeOf9
 v9:=Tryz.zeroValue9
 t22:=Tryz.underlying131
 a22:=Tryz.isAgg131
 z22:=Tryz.sizeOf131
 v22:=Tryz.zeroValue131
 a24:=OS
 z24:=OD
 t25:=Tryz.underlying51
 a25:=Tryz.isAgg51
 z25:=Tryz.sizeOf51
 v25:=Tryz.zeroValue51
 t39:=Tryz.underlying129
 a39:=Tryz.isAgg129
 z39:=Tryz.sizeOf129
 v39:=Tryz.zeroValue129
 t45:=Tryz.underlying173
 a45:=Tryz.isAgg173
 z45:=Tryz.sizeOf173
 v45:=Tryz.zeroValue173
 t46:=Tryz.underlying174
 a46:=Tryz.isAgg174
 z46:=Tryz.sizeOf174
 v46:=Tryz.zeroValue174
 t50:=Tryz.underlying153
 a50:=Tryz.isAgg153
 z50:=Tryz.sizeOf153
 v50:=Tryz.zeroValue153
 t53:=Tryz.underlying165
 a53:=Tryz.isAgg165
 z53:=Tryz.sizeOf165
 v53:=Tryz.zeroValue165
 t55:=Tryz.underlying167
 a55:=Tryz.isAgg167
 z55:=Tryz.sizeOf167
 v55:=Tryz.zeroValue167
 t66:=Tryz.underlying225
 a66:=Tryz.isAgg225
 z66:=Tryz.sizeOf225
 v66:=Tryz.zeroValue225
 t70:=Tryz.underlying229
 a70:=Tryz.isAgg229
 z70:=Tryz.sizeOf229
 v70:=Tryz.zeroValue229
 t76:=Tryz.underlying262
 a76:=Tryz.isAgg262
 z76:=Tryz.sizeOf262
 v76:=Tryz.zeroValue262
 t77:=Tryz.underlying263
 a77:=Tryz.isAgg263
 z77:=Tryz.sizeOf263
 v77:=Tryz.zeroValue263 }
end Go.Proofs
namespace Go.Proofs.YtfidhgjmifendaaGreatDoor
open Go.RowKit Go.Sort Go.Shelf Go.Lib
theorem Dd(rs:List bK)(i k:Nat):cfR rs i k<0↔(rs.getD i dr).told<(rs.getD k dr).told\/((rs.getD i dr).told=(rs.getD k dr).told/\k<i):=by
 unfold cfR PQ tA;generalize(rs.getD i dr).told=a;generalize(rs.getD k dr).told=b
 repeat' split
 all_goals omega
def PU(rs:List bK)(m:Nat)(x y:Fin (m+1)):Int:=cfR rs x.val y.val
theorem ltF(rs:List bK)(m:Nat)(x y:Fin (m+1)):ltOf (PU rs m) x y=true↔(rs.getD x.val dr).told<(rs.getD y.val dr).told\/((rs.getD x.val dr).told=(rs.getD y.val dr).told/\y.val<x.val):=by
 unfold ltOf PU;rw[decide_eq_true_iff,Dd]
theorem qE(rs:List bK)(m:Nat)(x y:Fin (m+1)):ltOf (PU rs m) x y=false↔¬ ((rs.getD x.val dr).told<(rs.getD y.val dr).told\/((rs.getD x.val dr).told=(rs.getD y.val dr).told/\y.val<x.val)):=by
 rw[<- ltF,Bool.not_eq_true]
theorem adQ(rs:List bK)(m:Nat):SWO (ltOf (PU rs m)) where
 irrefl x:=by rw[qE];omega
 trans x y z h1 h2:=by rw[ltF] at *;omega
 ntrans x y z h1 h2:=by rw[qE] at *;omega
def qF(m:Nat)(x:Fin (m+1)):Value:=U O (x.val:Nat)
def kQ(m:Nat):Array (Fin (m+1)):=Array.ofFn (λx=>x)
theorem gC(m:Nat):(kQ m).size=m+1:=by simp[kQ]
theorem zq(m j:Nat)(hj:j<m+1):(kQ m)[j]! = ⟨j,hj⟩:=by
 rw[getElem!_pos _ j (by rw[gC];exact hj)];simp[kQ]
theorem Ew(m:Nat):(kQ m).toList.map (·.val)=JC (m+1):=by
 apply List.ext_getElem
 .simp[kQ]
 .intro j h1 h2
  rw[List.getElem_map,List.getElem_range,Array.getElem_toList];simp only[kQ,Array.getElem_ofFn]
theorem BD(W:World)(o:Obj):(W.alloc o).drew=grow (W.drewN 1) #[o]:=by
 simp only[grow,World.alloc,World.drew,World.drewN,Array.push_eq_append]
theorem adR(rs:List bK)(m lb b off ca g:Nat)(w:World)(hn:rs.length=m+1)(hr:mH w b off rs)(hl:w.cell? ⟨lb,0,be⟩=AI (J (AI ⟨b,off,be⟩) (m+1) ca))(h1:lb≠g)(h2:b≠g)(hb:b<w.heap.size) :
 CmpLays1 AS 128 #[If (AI ⟨lb,0,be⟩)] (qF m) (PU rs m) g 0 (kQ m).size w:=by
 intro q os dk hs x y;have gE:=Iy w _ hl;have c1:=(cell?_sortWorld_other (qF m) w g 0 q dk os ⟨lb,0,be⟩ h1 gE).trans hl;have c2:=(cell?_sortWorld_other (qF m) w g 0 q dk os ⟨b,off+x.val*6+5,be⟩ h2 hb).trans (hr x.val (by rw[hn];exact x.isLt)).2.2.2.2.2;have c3:=(cell?_sortWorld_other (qF m) w g 0 q dk os ⟨b,off+y.val*6+5,be⟩ h2 hb).trans (hr y.val (by rw[hn];exact y.isLt)).2.2.2.2.2;refine(Em _ _ lb b off (m+1) ca x.val y.val _ c1 x.isLt y.isLt c2 c3).mono ?_;rintro e w' ⟨rfl,rfl⟩;exact⟨rfl,1,_,BD _ _⟩
theorem Kw{rs:List bK}{m:Nat}{d':Array (Fin (m+1))}(hn:rs.length=m+1)(hp:PermIn 0 (kQ m).size (kQ m) d')(hs:SortedIn (ltOf (PU rs m)) 0 (kQ m).size d'):iQ rs (d'.toList.map (·.val)):=by
 obtain⟨cC,_,PV⟩:=hp;rw[Array.extract_size,show d'.extract 0 (kQ m).size=d' by rw[<- cC,Array.extract_size]] at PV;have hP:(d'.toList.map (·.val)).Perm (JC rs.length):=by
  rw[hn,<- Ew];exact PV.map _
 have hlen:(d'.toList.map (·.val)).length=m+1:=by rw[hP.length_eq,hn];simp
 have L3:=hP.nodup_iff.2 List.nodup_range;refine⟨hP,λi j jG hj=>?_⟩;have hds:d'.size=m+1:=by rw[cC,gC]
 have Ef:j<d'.size:=by rw[hds];omega
 have Wj:i<d'.size:=by omega
 have e1:(d'.toList.map (·.val)).getD i 0=d'[i].val:=by rw[pL (by omega)];simp
 have e2:(d'.toList.map (·.val)).getD j 0=d'[j].val:=by rw[pL hj];simp
 have aT:=I5.1 L3 i j (by omega) hj jG;simp only[List.getElem_map,Array.getElem_toList] at aT;have h:=hs i j (by omega) jG (by rw[gC];omega);rw[getElem!_pos d' j Ef,getElem!_pos d' i Wj,qE] at h;rw[e1,e2,Dd];omega
abbrev zr(k:Nat):List Value:=(JC k).map (λj=>Value.int O (j:Nat))
theorem Ex(k:Nat):zr (k+1)=zr k++[U O (k:Nat)]:=by simp[zr,List.range_succ]
theorem rL{m:Nat}{B:Nat}{w:World}{g off n:Nat}{d:Array (Fin (m+1))}{os:Array Obj}(hg:B<=g)(hB:B<=w.heap.size):Below B w (sortWorld (qF m) w g off n d os):=by
 refine⟨rfl,rfl,rfl,by simp[sortWorld,putRow,mapBlock,J0,grow],λk hk=>?_⟩;unfold sortWorld;rw[heap_grow_old _ _ (by simp[putRow,mapBlock,J0];omega)]
 have:g≠k:=by omega
 simp[putRow,mapBlock,J0,Array.getElem?_modify,this]
theorem BE(rs:List bK)(v:Value)(m:Nat)(hn:rs.length=m+1)(yQ:m<1000):qD rs v:=by
 intro w hv;obtain⟨i0,fW,dd,gY,gG⟩:=info_parts Tryz.Wl;obtain⟨pa,ca,rfl,_,ha⟩:=hv;obtain⟨b,off,Hp,gE,hr⟩:∃b off,pa=AI ⟨b,off,be⟩/\b<w.heap.size/\mH w b off rs:=by
  rcases ha with h|h
  .rw[h] at hn;simp at hn
  .exact h
 subst Hp;have HR:Hid (mH w b off rs):=hr;have HN:Hid _:=hn;rw[hn];clear ha hr hn;have eg:=enters_of Tryz.func128 (by kernel_rfl) rfl;have HEG:Hid _:=eg;clear eg;go_enter Tryz.func73,Tryz.ntmps73;go_wp2_with fail;go_loopw [3,7] (λo i wr=>∃k:Nat,k<=m+1/\i=U O k/\Hid (wr.ownsRow (w.heap.size+1) 3 1 o k (zr k))/\Hid (Below (w.heap.size+1) (w.alloc (.cells #[J (AI ⟨b,off,be⟩) (m+1) ca] 35)) wr)) (λ_ i _=>m+1-(intOf i).toNat)
 case atStart=>exact⟨0,IH _,rfl,World.ownsRow_nil _ _ _ _,Ib _ _⟩
 case round=>
  obtain⟨k,hk,rfl,HO,HB⟩:=hrel;have cC:w.heap.size+1<=wr.heap.size:=by have:=HB.out.size;simpa using this
  by_cases aR:k<m+1
  .have gZ:Hid (∀ob,(wr.alloc ob).ownsRow (w.heap.size+1) 3 1 u3 k (zr k)):=λob=>by
    obtain⟨h1,h2⟩:=HO.out;refine⟨h1,?_⟩;rcases h2 with h2|⟨g,c,cur,hv,ey,hg,hr⟩
    .exact .inl h2
    .exact .inr ⟨g,c,cur,hv,ey,by rw[((Ib wr.heap.size wr).alloc (Ic _) ob).block g (BY.1 hg).1];exact hg,hr⟩
   have LX:Hid (∀j,u3.ownBlock=AI j->w.heap.size+1<=j):=λj hj=>(OI HO.out j hj).1;clear HO;go_wp2_with (at_builtin;refine Ja _ rfl _ _ 131 rfl (w.heap.size+1) 3 i0 _ 1 8 Tryz.underlying131 fW dd gY gG rfl (by omega) _ k (zr k) rfl ?hown ⟨wr.heap.size,0,be⟩ 1 1 [U O k] rfl rfl ?hnews (by simp[Value.oneCell']) ?h63 ?hbytes ?hbase ?_)
   case hown=>exact gZ.out _
   case hnews=>(intro j u hj;rw[Addr.add_lit];exact(cR rfl).trans (by simpa using hj))
   case h63=>(unfold maxLen;omega)
   case hbytes=>omega
   case hbase=>(simp;omega)
   intro v' w2 r1 r2 r3;have R1:Hid (w2.ownsRow (w.heap.size+1) 3 1 v' (k+1) (zr (k+1))):=by rw[Ex];exact r1
   have R2:Hid (Below (w.heap.size+1) (w.alloc (.cells #[J (AI ⟨b,off,be⟩) (m+1) ca] 35)) w2):=
    (HB.out.alloc cC _).grown r2 (by simp;omega) (λj hj=>LX.out j hj)
   clear r1 r2 r3;go_wp2_with fail;exact⟨⟨k+1,by omega,by go_num,R1.out,R2.out⟩,by simp[intOf];omega⟩
  .have gK:k=m+1:=by omega
   subst gK;obtain⟨g,c,hu3,ey,dN,fS,qT⟩:∃g c,u3=J (AI ⟨g,0,be⟩) (m+1) c/\w.heap.size+1<=g/\m+1<=c/\(∀j,j<m+1->wr.cell? ⟨g,j,be⟩=AI (U O (j:Nat)))/\(∀j,wr.frozen? ⟨g,j,be⟩=false):=by
    have hO:=HO.out;rcases HO.out.2 with⟨_,h0⟩|⟨g,c,cur,hv,ey,hg,fK,dN,bZ,bf⟩
    .omega
    .subst hv
     refine⟨g,c,rfl,ey,fK,λj hj=>?_,λj=>I7 hO j⟩;rw[Ox hO j (by omega)];simp[zr,hj]
   subst hu3;have wF:=Iy wr ⟨g,0,be⟩ (fS 0 (by omega));have adT:wr.cell? ⟨w.heap.size,0,be⟩=AI (J (AI ⟨b,off,be⟩) (m+1) ca):=by
    rw[HB.out.cell (p:=⟨w.heap.size,0,be⟩) (by simp only;omega)];exact cR rfl
   have cO:=(HR.out.below ((Ib w.heap.size w).alloc (Ic _) _) gE).below HB.out (by omega);have pM:=Any.slices_SortFunc Tryz.PS (qF m) (λ_=>rfl) (PU rs m) (adQ rs m) 128 #[If (AI ⟨w.heap.size,0,be⟩)] g 0 c (kQ m) wr HEG.out (adR rs m w.heap.size b off ca g wr HN.out cO adT (by omega) (by omega) (by omega)) (λj hj=>by
    rw[gC] at hj;rw[zq m j hj,ID];exact⟨fS j hj,qT j⟩) wF (by rw[gC];omega)
   have Wm:Calls AS 127 #[J (AI ⟨g,0,be⟩) (m+1) c,.func (.func 128) #[] #[If (AI ⟨w.heap.size,0,be⟩)]] wr λe w'=>e=AT (.tuple #[])/\∃d' n os,PermIn 0 (kQ m).size (kQ m) d'/\SortedIn (ltOf (PU rs m)) 0 (kQ m).size d'/\w'=sortWorld (qF m) wr g 0 n d' os:=by
    have h:=pM;rw[show J (AI ⟨g,0,be⟩) (kQ m).size c=J (AI ⟨g,0,be⟩) (m+1) c by rw[gC]] at h;exact h
   have HHH:Hid (Holds (qF m) wr g 0 (kQ m)):=λj hj=>by
    rw[gC] at hj;rw[zq m j hj,ID];exact⟨fS j hj,qT j⟩
   clear pM fS qT cO HO;go_wp2_with fail;refine Wm.mono ?_;rintro e w2 ⟨rfl,d',nd,os,hp,hs,sJ⟩;have uU:Hid _:=Kw HN.out hp hs;have hds:d'.size=m+1:=by rw[hp.1,gC]
   have SL:Hid (∀j,j<m+1->w2.cell? ⟨g,j,be⟩=AI (U O ((d'.toList.map (·.val)).getD j 0:Nat))):=λj hj=>by
    have h1:=cell?_putRow (qF m) (J0 wr nd) g 0 (kQ m) d' (show Holds (qF m) (J0 wr nd) g 0 (kQ m) from HHH.out) hp.1 j (by omega);have h2:w2.cell? ⟨g,0+j,be⟩=(putRow (qF m) (J0 wr nd) g 0 d').cell? ⟨g,0+j,be⟩:=by
     rw[sJ];exact cell?_grow _ _ _ (by
      have h3:=Iy (putRow (qF m) (J0 wr nd) g 0 d') ⟨g,0+j,be⟩ h1;exact h3)
    rw[ID] at h1 h2;rw[h2,h1,getElem!_pos d' j (by omega)];simp[qF,Iq,hds,hj]
   have LY:Hid (Below w.heap.size w w2):=by
    rw[sJ];exact(((Ib w.heap.size w).alloc (Ic _) _).trans (HB.out.mono (Nat.le_succ _))).trans (rL (by omega) (by omega))
   clear HHH hp hs sJ;go_wp2_with fail;go_ret;exact⟨g,c,d'.toList.map (·.val),rfl,uU.out,SL.out,dN,by omega,LY.out⟩
end Go.Proofs.YtfidhgjmifendaaGreatDoor
