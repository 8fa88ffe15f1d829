import Derived.Test.YtfidhgjmifendaaGreatDoorns28
set_option maxHeartbeats 1600000
set_option maxRecDepth 100000
open Go.Value renaming int→U,slice→J,tuple→Ik,string→Y,bool→Ia
open Go.Ending renaming returned→AT
open Go.IntKind renaming i64→O
open Go.Proofs renaming sortWorldK→Qy
open Go.Sort renaming ahead→J0
open Option renaming some→AI,none→be
open Go.Proofs.Tryz renaming prog→AS
open Nat renaming zero_le→IP,le_refl→Ic
open List renaming getD→Ip,eq_nil_of_length_eq_zero→Jc,length_nil→IV,map_append→O3,getElem?_eq_getElem→If,take_succ_eq_append_getElem→IH,filter_append→Qq,length_map→JJ,mem_of_mem_take→Jd,getElem_mem→IJ
open Go renaming wp_loop_rounds→M2,rounds_succ→JR,wpList_append_own→Ja,heap_alloc_new→Ih,maxLen→Il
namespace Go.Proofs.YtfidhgjmifendaaGreatDoor
open Go.RowKit Go.Sort Go.Lib
theorem WS(n:Nat)(W:World)(h:n<=12):aI 71 #[U .u64 n] W λe w'=>(∃l:Int,e=AT (U O l))/\w'=W:=
 (Tryz.bits_Len n W (by omega) (by omega)).mono λ_ _ ⟨he,hw⟩=>⟨⟨_,he⟩,hw⟩
theorem zY[Inhabited Mem]{B:Nat}{w:World}{g n:Nat}{d:Array Mem}{os:Array Obj}(hg:B<=g)(hB:B<=w.heap.size):Go.RowKit.Below B w (Qy Mem.cs 5 w g 0 n d os):=by
 refine⟨rfl,rfl,rfl,by simp[Qy,putRowK,putRow,mapBlock,J0,grow],λk hk=>?_⟩;unfold Qy;rw[Go.Sort.heap_grow_old _ _ (by simp[putRowK,putRow,mapBlock,J0];omega)]
 have:g≠k:=by omega
 simp[putRowK,putRow,mapBlock,J0,Array.getElem?_modify,this]
theorem KZ[Inhabited Mem]{w:World}{g n:Nat}{d:Array Mem}{os:Array Obj}:Sh (λk=>k=g) w (Qy Mem.cs 5 w g 0 n d os):=by
 refine⟨rfl,rfl,rfl,by simp[Qy,putRowK,putRow,mapBlock,J0,grow],λk hk aQ=>?_⟩;unfold Qy;rw[Go.Sort.heap_grow_old _ _ (by simp[putRowK,putRow,mapBlock,J0];omega)]
 have:g≠k:=λe=>aQ e.symm
 simp[putRowK,putRow,mapBlock,J0,Array.getElem?_modify,this]
def K0(l:List Mem):Prop:=∀i j,i<j->j<l.length->0<=bR (l.getD j dm).name (l.getD i dm).name
theorem Cj(base:Nat)(l:List Mem)(g c:Nat)(w:World)(h:Own base w (J (AI ⟨g,0,be⟩) l.length c) l)(hb:base<=w.heap.size)(hl:l.length<=12) :
 aI 47 #[J (AI ⟨g,0,be⟩) l.length c,.func (.func 48) #[] #[]] w λe w'=>e=AT (Ik #[])/\∃l':List Mem,l'.Perm l/\K0 l'/\Own base w' (J (AI ⟨g,0,be⟩) l.length c) l'/\Go.RowKit.Below base w w'/\Sh (λk=>k=g) w w':=by
 have eg:∀args w,(callFunc 48 args).run AS w=.ok (.enter 48 args) w:=enters_of Tryz.func48 (by kernel_rfl) rfl;have du:=h.lt g rfl;have ae1:Inhabited Mem:=⟨dm⟩;have qp:=AnyQ.slices_SortFunc_small_sorted Tryz.WI 5 Tryz.isAgg50 Tryz.sizeOf50 Mem.cs bD dh SX 48 #[] aeR g 0 c l.toArray w eg (KR g 0 _ w) (Fb h) du.2 (by simpa using hl) WS;rw[List.size_toArray] at qp;refine Calls.mono qp ?_;rintro e w' ⟨rfl,d,n,os,hp,hs,rfl⟩;obtain⟨p1,_,p3⟩:=hp;have cI:d.size=l.length:=by simpa using p1
 refine⟨rfl,d.toList,?_,λi j iS hj=>?_,Cd h d cI,zY du.1 hb,KZ⟩
 .have e1:d.extract 0 l.length=d:=by rw[<- cI];simp
  have e2:l.toArray.extract 0 l.length=l.toArray:=by simp
  rw[e1,e2] at p3;simpa using p3
 .have EA:j<d.size:=by simpa using hj
  have h2:=hs i j (IP _) iS (by rw[<- cI];exact EA);have h3:¬ bR (d[j]!).name (d[i]!).name<0:=of_decide_eq_false h2;have e1:d[j]! = d.toList.getD j dm:=by simp[Ip,EA]
  have e2:d[i]! = d.toList.getD i dm:=by simp[Ip,show i<d.size by omega]
  rw[e1,e2] at h3;omega
theorem Fi(f:Value)(w:World) :
 aI 132 #[J be 0 0,U O 0,U O 0,f] w λe w'=>e=AT (Ik #[])/\w'=w:=by
 go_enter Tryz.func132,Tryz.ntmps132;go_wp2_with fail;refine M2 1 ?_;rw[JR];go_wp2_with fail;go_end0
 exact⟨rfl,rfl⟩
theorem Fj(k:Int)(f:Value)(w:World) :
 aI 76 #[J be 0 0,U O 0,U O 0,U O k,f] w λe w'=>e=AT (Ik #[])/\w'=w:=by
 go_enter Tryz.func76,Tryz.ntmps76;go_wp2_with fail;refine M2 1 ?_;rw[JR];go_wp2_with (go_at_call 132;refine(Fi _ _).mono ?_;rintro e w' ⟨rfl,rfl⟩)
 (try simp only[Exit.inBlock,Exit.then]);refine bodyPost_ret (results_none rfl _ _ _) rfl ?_
 exact⟨rfl,rfl⟩
theorem Ck(f:Value)(w:World) :
 aI 47 #[J be 0 0,f] w λe w'=>e=AT (Ik #[])/\w'=w:=by
 go_enter Tryz.func47,Tryz.ntmps47;go_wp2_with (go_at_call 71;refine(Tryz.bits_Len _ _ (by omega) (by omega)).mono ?_;rintro e w' ⟨rfl,rfl⟩);refine(Fj _ _ _).mono ?_;rintro e w' ⟨rfl,rfl⟩;go_wp2_with fail;go_end0
 exact⟨rfl,rfl⟩
theorem Fk(base:Nat)(l:List Mem)(v:Value)(w:World)(h:Own base w v l)(hb:base<=w.heap.size)(hl:l.length<=12) :
 aI 47 #[v,.func (.func 48) #[] #[]] w λe w'=>e=AT (Ik #[])/\∃l':List Mem,l'.Perm l/\K0 l'/\Own base w' v l'/\Go.RowKit.Below base w w'/\Sh (λk=>v.ownBlock=AI k) w w':=by
 rcases h.2 with⟨h1,h2⟩|⟨g,c,cur,h1,_⟩
 .subst h1
  have he:=Jc h2;subst he;refine(Ck _ w).mono ?_;rintro e w' ⟨rfl,rfl⟩;exact⟨rfl,[],.refl _,λi j _ hj=>by simp at hj,b9 _ _,Go.RowKit.Below.refl _ _,Sh.refl _ _⟩
 .subst h1
  refine(Cj base l g c w h hb hl).mono ?_;rintro e w' ⟨rfl,l',h1,h2,h3,h4,h5⟩;exact⟨rfl,l',h1,h2,h3,h4,h5.mono (λk hk=>by rw[hk];rfl)⟩
end Go.Proofs.YtfidhgjmifendaaGreatDoor
namespace Go.Proofs.YtfidhgjmifendaaGreatDoor
open Go.RowKit Go.Sort Go.Shelf Go.Lib
theorem Cl(v:Value)(w:World)(hv:mR w v []) :
 Calls AS 73 #[v] w λe w'=>e=AT (J be 0 0)/\Below w.heap.size w w':=by
 obtain⟨pa,ca,rfl,_,_⟩:=hv;simp only[IV];have hs:=λ(fv:Value) (W:World)=>AnyF.slices_SortFunc_none (P:=AS) (ρ:=Tryz.wJ) { Tryz.P7 with } be 0 fv W;have HS:Hid _:=hs;clear hs;have sj:Below w.heap.size w (w.alloc (.cells #[J pa 0 ca] 35)):=(Below.refl _ _).alloc (Ic _) _;go_enter Tryz.func73,Tryz.ntmps73;go_wp2_with fail;refine M2 1 ?_;rw[JR];go_wp2_with fail;refine(HS.out _ _).mono ?_;rintro e w' ⟨rfl,rfl⟩;go_wp2_with fail;go_ret;exact⟨rfl,sj⟩
theorem uq(p:Option Addr)(c:Nat)(fv:Value)(w:World) :
 Calls AS 131 #[J p 0 c,fv] w λe w'=>e=AT (U O (-1))/\w'=w:=by
 go_enter Tryz.func131,Tryz.ntmps131;go_wp2_with fail;refine M2 1 ?_;rw[JR];go_wp2_with fail;go_ret;exact⟨rfl,rfl⟩
theorem sD(p:Option Addr)(c:Nat)(fv:Value)(w:World) :
 Calls AS 74 #[J p 0 c,fv] w λe w'=>e=AT (J p 0 c)/\w'=w:=by
 go_enter Tryz.func74,Tryz.ntmps74;go_wp2_with fail;refine(uq _ _ _ _).mono ?_;rintro e w' ⟨rfl,rfl⟩;go_wp2_with fail;go_ret;exact⟨rfl,rfl⟩
theorem Fl(v:Value)(most times:Int)(w:World)(hv:mR w v [])(h0:dZ []=0)(hm:within most 1 20=true)(ht:within times 1 100=true) :
 Calls AS 46 #[v,U O most,U O times] w λe w'=>∃v1 v2,e=AT (Ik #[v1,v2,U O 0])/\Own w.heap.size w' v1 []/\cL w.heap.size w' v2 []/\Below w.heap.size w w':=by
 have HV:Hid (mR w v []):=hv;have oP:1<=most/\most<=20:=by simp[within] at hm;omega
 obtain⟨oP,hm2⟩:=oP;have j7:=λ(w:World) (h:mR w v [])=>gh [] v w h;rw[h0] at j7;obtain⟨pa,ca,rfl,_,_⟩:=hv;simp only[IV] at *;have sj:Below w.heap.size w (w.alloc (.cells #[U O times] 3)):=(Below.refl _ _).alloc (Ic _) _;go_enter Tryz.func46,Tryz.ntmps46;go_wp2_with fail;refine(j7 _ (HV.out.below sj)).mono ?_;rintro e w1 ⟨rfl,aB⟩;have c1:w1.cell? ⟨w.heap.size,0,be⟩=AI (U O times):=by
  rw[aB.cell (p:=⟨w.heap.size,0,be⟩) (by simp)];exact cU rfl
 have ba:Hid _:=sj.trans (aB.mono (by simp));clear aB sj j7;go_wp2_with (go_at_call 54;refine(cB _ _ _ _).mono ?_;rintro e w' ⟨rfl,rfl⟩;first|rw[hm]|rw[ht]);refine(gi [] _ _ (HV.out.below ba.out) (by simp)).mono ?_;rintro e w3 ⟨v3,rfl,lE,bX⟩;have ec:Hid (cL _ _ _ _):=lE.base ba.out.size;have cJ:Hid _:=ba.out.trans (bX.mono ba.out.size);clear bX lE c1;go_wp2_with fail;refine(Cl _ _ (HV.out.below cJ.out)).mono ?_;rintro e w4 ⟨rfl,eU⟩;have fO:Hid _:=cJ.out.trans (eU.mono cJ.out.size);have nX:Hid (cL _ _ _ _):=ec.out.below eU;clear eU ec;obtain⟨g,c,zz⟩:∃g c,v3=J g 0 c:=by
  rcases nX.out.2 with⟨h,_⟩|⟨g,c,cur,h,_⟩
  .exact⟨_,_,h⟩
  .exact⟨_,_,h⟩
 subst zz;have aeK:min most 0=0:=by omega
 go_wp2_with fail;refine M2 1 ?_;rw[JR];go_wp2_with fail;refine(sD _ _ _ _).mono ?_;rintro e w' ⟨rfl,rfl⟩;go_wp2_with fail;go_ret3
 exact⟨_,_,rfl,b9 _ _,nX.out,fO.out⟩
end Go.Proofs.YtfidhgjmifendaaGreatDoor
namespace Go.Proofs.YtfidhgjmifendaaGreatDoor
open Go.RowKit
theorem Tryz.WT:(Tryz.prog.info? 9).map (λi=>(i.zero,i.size,i.bytes))=AI (AI (Y ⟨#[]⟩),1,16):=by kernel_rfl
abbrev sE(base:Nat)(w:World)(v:Value)(l:List ByteArray):Prop:=w.ownsRow base 9 1 v l.length (l.map Y)
theorem K1(base:Nat)(w:World):sE base w (J be 0 0) []:=World.ownsRow_nil w base 9 1
theorem sE.below{base:Nat}{w w':World}{v:Value}{l:List ByteArray}(h:sE base w v l)(hb:Below w.heap.size w w'):sE base w' v l:=by
 rcases h.2 with⟨rfl,h0⟩|⟨g,c,cur,rfl,eD,hg,fP,dR,cf,bj⟩
 .exact⟨h.1,.inl ⟨rfl,h0⟩⟩
 .have aX:=(Array.getElem?_eq_some_iff.1 hg).1
  exact⟨h.1,.inr ⟨g,c,cur,rfl,eD,(hb.block g aX).trans hg,fP,dR,cf,bj⟩⟩
theorem sE.lt{base:Nat}{w:World}{v:Value}{l:List ByteArray}(h:sE base w v l)(k:Nat)(hk:v.ownBlock=AI k):base<=k/\k<w.heap.size:=World.ownsRow.lt h k hk
theorem wL{base:Nat}{w:World}{v:Value}{l:List ByteArray}{s:ByteArray}(h:w.ownsRow base 9 1 v (l.length+1) (l.map Y++[Y s])):sE base w v (l++[s]):=by
 show w.ownsRow base 9 1 v (l++[s]).length ((l++[s]).map Y);rw[List.length_append,O3];exact h
def isLive(m:Mem):Bool:=m.state==1||m.state==2
def eH(ms:List Mem):List ByteArray:=(ms.filter isLive).map Mem.name
theorem Fm(ms:List Mem)(k:Nat)(hk:k<ms.length)(h:isLive (ms.getD k dm)=true):eH (ms.take (k+1))=eH (ms.take k)++[(ms.getD k dm).name]:=by
 have e:ms.getD k dm=ms[k]:=by simp[Ip,If hk]
 rw[e] at h ⊢;unfold eH;rw[IH hk,Qq,O3];simp[h]
theorem K2(ms:List Mem)(k:Nat)(hk:k<ms.length)(h:isLive (ms.getD k dm)=false):eH (ms.take (k+1))=eH (ms.take k):=by
 have e:ms.getD k dm=ms[k]:=by simp[Ip,If hk]
 rw[e] at h;unfold eH;rw[IH hk,Qq,O3];simp[h]
theorem Fo(ms:List Mem)(k:Nat):(eH (ms.take k)).length<=k:=by
 unfold eH;rw[JJ];exact Nat.le_trans (List.length_filter_le _ _) (List.length_take_le _ _)
theorem Fp(ms:List Mem)(v:Value)(w:World)(hv:Sl w v ms)(h0:bl ms=0) :
 Calls AS 44 #[v] w λe w'=>∃v',e=AT (Ik #[v',U O 0])/\Hid (sE w.heap.size w' v' (eH ms))/\Below w.heap.size w w':=by
 obtain⟨i0,fV,di,il,gT⟩:=info_parts Tryz.WT;have he:(bl ms !=0)=false:=by simpa using h0
 have hz:=af h0;have hlen:=hz.1;have HV:Hid (Sl w v ms):=hv;obtain⟨pa,ca,rfl,_,ha⟩:=hv;have HA:Hid _:=ha;clear ha h0 hz;generalize Rf:ms.length=n at *;have HN:Hid (ms.length=n):=Rf;clear Rf;go_enter Tryz.func44,Tryz.ntmps44;go_wp2_with fail;refine(bq ms _ _ HV.out).mono ?_;rintro e w1 ⟨rfl,aB⟩;go_wp2_with fail;go_loopw [5,15] (λkn i w'=>∃k:Nat,k<=n/\i=U O k/\Below w.heap.size w w'/\Hid (sE w.heap.size w' kn (eH (ms.take k)))) (λ_ i _=>n-(intOf i).toNat)
 case atStart=>exact⟨0,IP _,rfl,aB,K1 _ _⟩
 case round=>
  clear aB;obtain⟨k,hk,rfl,aR,HO⟩:=hrel;obtain⟨eM,nQ⟩:=cC aR;have cI:=aR.size;by_cases aX:k<n
  .obtain⟨b1,o1,xt,Dd,nN⟩:∃b off,pa=AI ⟨b,off,be⟩/\b<w.heap.size/\Row w b off ms:=by
    rcases HA.out with h|h
    .have:=HN.out;rw[h] at this;simp at this;omega
    .exact h
   subst xt;obtain⟨c0,c1,c2,c3,c4⟩:=nN k (by rw[HN.out];exact aX);clear nN;have HY:Hid (isLive (ms.getD k dm)=true->eH (ms.take (k+1))=eH (ms.take k)++[(ms.getD k dm).name]):=λh=>Fm ms k (by rw[HN.out];exact aX) h;have HX:Hid (isLive (ms.getD k dm)=false->eH (ms.take (k+1))=eH (ms.take k)):=λh=>K2 ms k (by rw[HN.out];exact aX) h;have hll:=Fo ms k;generalize ms.getD k dm=mk at *;obtain⟨nk,sk,lk,ak,vk⟩:=mk;simp only at c0 c1 c2 c3 c4;have gr:sk=1\/sk=2\/(sk≠1/\sk≠2):=by omega
   rcases gr with h|h|⟨h,h'⟩
   .subst h
    have HY2:Hid (eH (ms.take (k+1))=eH (ms.take k)++[nk]):=HY.out rfl;clear HY HX;generalize eH (ms.take k)=L at *;go_wp2_with (at_builtin;refine Ja _ rfl _ _ 69 rfl w.heap.size 9 i0 _ 1 16 Tryz.underlying69 fV di il gT rfl (by omega) _ L.length (L.map Y) rfl ?hown ⟨wr.heap.size+1,0,be⟩ 1 1 [Y nk] rfl rfl ?hnews (by intro u hu;simp at hu;subst hu;rfl) ?h63 ?hbytes ?hbase ?_)
    case hown=>exact HO.out.below (((Below.refl _ _).alloc (Ic _) _).alloc (by simp) _)
    case hnews=>(intro j u hj;rw[Addr.add_lit];have hh:=ae (Ih (wr.alloc (.cells #[Y nk,U O 1,U O lk,U O ak,Ia vk] 50)) (.cells #[Y nk] 9)) (0+j);rw[show(wr.alloc (.cells #[Y nk,U O 1,U O lk,U O ak,Ia vk] 50)).heap.size=wr.heap.size+1 by simp] at hh;exact hh.trans (by simpa using hj))
    case h63=>(unfold Il;omega)
    case hbytes=>omega
    case hbase=>first|omega|(simp;omega)
    intro v' w2 r1 r2 r3;have iq:Hid (sE w.heap.size w2 v' (L++[nk])):=wL r1;have bu:Hid (Below w.heap.size w w2):=((aR.alloc cI _).alloc (by simp;omega) _).grown r2 (by simp;omega) (λj hj=>(HO.out.lt j hj).1);go_wp2_with fail;exact⟨⟨k+1,by omega,by go_num,bu.out,by rw[HY2.out];exact iq⟩,by simp[intOf];omega⟩
   .subst h
    have HY2:Hid (eH (ms.take (k+1))=eH (ms.take k)++[nk]):=HY.out rfl;clear HY HX;generalize eH (ms.take k)=L at *;go_wp2_with (at_builtin;refine Ja _ rfl _ _ 69 rfl w.heap.size 9 i0 _ 1 16 Tryz.underlying69 fV di il gT rfl (by omega) _ L.length (L.map Y) rfl ?hown ⟨wr.heap.size+1,0,be⟩ 1 1 [Y nk] rfl rfl ?hnews (by intro u hu;simp at hu;subst hu;rfl) ?h63 ?hbytes ?hbase ?_)
    case hown=>exact HO.out.below (((Below.refl _ _).alloc (Ic _) _).alloc (by simp) _)
    case hnews=>(intro j u hj;rw[Addr.add_lit];have hh:=ae (Ih (wr.alloc (.cells #[Y nk,U O 2,U O lk,U O ak,Ia vk] 50)) (.cells #[Y nk] 9)) (0+j);rw[show(wr.alloc (.cells #[Y nk,U O 2,U O lk,U O ak,Ia vk] 50)).heap.size=wr.heap.size+1 by simp] at hh;exact hh.trans (by simpa using hj))
    case h63=>(unfold Il;omega)
    case hbytes=>omega
    case hbase=>first|omega|(simp;omega)
    intro v' w2 r1 r2 r3;have iq:Hid (sE _ _ _ _):=wL r1;have bu:Hid _:=((aR.alloc cI _).alloc (by simp;omega) _).grown r2 (by simp;omega) (λj hj=>(HO.out.lt j hj).1);go_wp2_with fail;exact⟨⟨k+1,by omega,by go_num,bu.out,by rw[HY2.out];exact iq⟩,by simp[intOf];omega⟩
   .have e1:(sk==1)=false:=by simpa using h
    have e2:(sk==2)=false:=by simpa using h'
    have Bj:Hid _:=HX.out (by simp[isLive,h,h']);clear HY HX h h';go_wp2_with fail;go_roundw
    case rel=>exact⟨k+1,by omega,by go_num,aR.alloc cI _,by rw[Bj.out];exact HO.out.below ((Below.refl _ _).alloc (Ic _) _)⟩
    case measure=>simp[intOf];omega
  .have HF:Hid (sE w.heap.size wr u5 (eH ms)):=by
    have h:=HO.out;rw[List.take_of_length_le (by rw[HN.out];omega)] at h;exact h
   go_wp2_with fail;go_ret2;exact⟨u5,rfl,HF,aR⟩
def rB(rs:List bE)(times:Int)(told:List Mem)(rest:List bE):Prop:=
 (rs=[]/\told=[]/\rest=[])\/(0<rs.length/\∃ord,gL rs ord/\told=gM rs ord (min 5 rs.length)/\rest=(bump rs ord (min 5 rs.length)).filter (ek times))
theorem pc{rs:List bE}{times:Int}{told:List Mem}{rest:List bE}(h:rB rs times told rest):told.length<=5:=by
 rcases h with⟨_,rfl,_⟩|⟨_,ord,_,rfl,_⟩
 .simp
 .unfold gM;rw[JJ,List.length_take];omega
theorem jP{rs:List bE}{ord:List Nat}{k:Nat}(h:gL rs ord){m:Mem}(hm:m∈gM rs ord k):∃r∈rs,r.m=m:=by
 unfold gM at hm;obtain⟨i,hi,rfl⟩:=List.mem_map.1 hm;have hb:=h.bd i (Jd hi);refine⟨rs[i],IJ _,?_⟩;simp[Ip,If hb]
theorem zZ(rs:List bE):∀(is:List Nat) (r:bE),r∈is.foldl eQ rs->(∃x∈rs,x.m=r.m)\/r.m=dm
 |[],r,h=>.inl ⟨r,h,rfl⟩
 |i::is,r,h=>by
  rw[List.foldl_cons] at h;rcases zZ (eQ rs i) is r h with⟨x,hx,e⟩|e
  .unfold eQ at hx
   rcases List.mem_or_eq_of_mem_set hx with hx|rfl
   .exact .inl ⟨x,hx,e⟩
   .by_cases hi:i<rs.length
    .exact .inl ⟨rs[i],IJ _,by rw[<- e];simp[Ip,If hi]⟩
    .exact .inr (by rw[<- e];simp[Ip,List.getElem?_eq_none (Nat.le_of_not_lt hi),dr])
  .exact .inr e
theorem wM{rs:List bE}{times:Int}{told:List Mem}{rest:List bE}(h:rB rs times told rest)(hr:∀r∈rs,r.m.name.size<=Il):(∀m∈told,m.name.size<=Il)/\∀r∈rest,r.m.name.size<=Il:=by
 rcases h with⟨_,rfl,rfl⟩|⟨_,ord,ho,rfl,rfl⟩
 .exact⟨λm hm=>by simp at hm,λm hm=>by simp at hm⟩
 .refine⟨λm hm=>?_,λr Fq=>?_⟩
  .obtain⟨r,h1,rfl⟩:=jP ho hm;exact hr r h1
  .have h1:=(List.mem_filter.1 Fq).1
   rcases zZ rs _ r h1 with⟨x,hx,e⟩|e
   .rw[<- e];exact hr x hx
   .rw[e];simp[dm]
theorem Fs(rs:List bE)(v:Value)(times:Int)(w:World)(hv:mR w v rs)(h0:dZ rs=0)(ht:within times 1 100=true) :
 aI 46 #[v,U O 5,U O times] w λe w'=>∃a k c a2 k2 c2 told rest,e=AT (Ik #[J a k c,J a2 k2 c2,U O 0])/\Hid (rB rs times told rest)/\Own w.heap.size w' (J a k c) told/\cL w.heap.size w' (J a2 k2 c2) rest/\Below w.heap.size w w':=by
 by_cases hp:0<rs.length
 .have hT:=Cc rs v (rs.length-1) (by omega) (by have:=(lY h0).1;omega)
  refine(E6 rs v 5 times w hv h0 rfl ht hp hT).mono ?_;rintro e w' ⟨v1,v2,ord,rfl,ho,h1,h2,hb⟩;obtain⟨a,c,rfl,_⟩:=aA h1;obtain⟨a2,c2,rfl,_⟩:=aA h2;exact⟨a,_,c,a2,_,c2,_,_,rfl,.inr ⟨hp,ord,ho,rfl,rfl⟩,h1,h2,hb⟩
 .have he:rs=[]:=Jc (by omega)
  subst he;refine(Fl v 5 times w hv h0 rfl ht).mono ?_;rintro e w' ⟨v1,v2,rfl,h1,h2,hb⟩;obtain⟨a,c,rfl,_⟩:=aA h1;obtain⟨a2,c2,rfl,_⟩:=aA h2;exact⟨a,_,c,a2,_,c2,_,_,rfl,.inl ⟨rfl,rfl,rfl⟩,h1,h2,hb⟩
def Vp(n:Nd):Int:=max (3*(Lib.bitLen (eH n.ms).length:Nat)) 1
def fj(n:Nd)(l:List Mem)(rest:List bE):Prop:=∃told,rB n.rs (Vp n) told rest/\l.Perm told/\K0 l
theorem Cm{rs:List bE}{ord:List Nat}(ho:gL rs ord)(hd:dL rs)(k:Nat):(gM rs ord k).Pairwise λx y=>x.name≠y.name:=by
 unfold gM;rw[List.pairwise_map];have h1:(ord.take k).Nodup:=ho.nodup.sublist (List.take_sublist _ _);refine List.Pairwise.imp_of_mem ?_ h1;intro a b ha hb aQ;have h2:=ho.bd a (Jd ha);have h3:=ho.bd b (Jd hb);rcases Nat.lt_or_gt_of_ne aQ with h|h
 .exact hd a b h h3
 .exact(hd b a h h2).symm
theorem yf{rs:List bE}{times:Int}{told:List Mem}{rest:List bE}(h:rB rs times told rest)(hd:dL rs):told.Pairwise λx y=>x.name≠y.name:=by
 rcases h with⟨_,rfl,_⟩|⟨_,ord,ho,rfl,_⟩
 .exact .nil
 .exact Cm ho hd _
end Go.Proofs.YtfidhgjmifendaaGreatDoor
