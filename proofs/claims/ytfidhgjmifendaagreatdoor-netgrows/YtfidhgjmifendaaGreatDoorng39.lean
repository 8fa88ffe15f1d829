import Derived.Test.YtfidhgjmifendaaGreatDoorng30
set_option maxHeartbeats 1600000
set_option maxRecDepth 100000
open Go.Value renaming int→U,slice→J,tuple→Im,string→Y,bool→Ia
open Go.Ending renaming returned→AT
open Go.IntKind renaming i64→O
open Go.Proofs renaming sortWorldK→Qy
open Go.Sort renaming ahead→J0
open Option renaming some→AI,none→be
open Go.Proofs.Tryz renaming prog→AS
open Nat renaming zero_le→IH,le_refl→Ic
open List renaming getD→Iq,eq_nil_of_length_eq_zero→Jd,length_nil→IV,map_append→O2,getElem?_eq_getElem→Ie,take_succ_eq_append_getElem→II,filter_append→Qq,length_map→Oa,mem_of_mem_take→Je,getElem_mem→IG
open Go renaming wp_loop_rounds→J8,rounds_succ→JQ,wpList_append_own→Ja,heap_alloc_new→Ii,maxLen→Io
namespace Go.Proofs.YtfidhgjmifendaaGreatDoor
open Go.RowKit Go.Sort Go.Lib
theorem Wu(n:Nat)(W:World)(h:n<=12):aF 71 #[U .u64 n] W λe w'=>(∃l:Int,e=AT (U O l))/\w'=W:=
 (Tryz.bits_Len n W (by omega) (by omega)).mono λ_ _ ⟨he,hw⟩=>⟨⟨_,he⟩,hw⟩
theorem zB[Inhabited Mem]{B:Nat}{w:World}{g n:Nat}{d:Array Mem}{os:Array Obj}(hg:B<=g)(hB:B<=w.heap.size):Go.RowKit.Below B w (Qy Mem.cs 5 w g 0 n d os):=by
 refine⟨rfl,rfl,rfl,by simp[Qy,putRowK,putRow,mapBlock,J0,grow],λk hk=>?_⟩;unfold Qy;rw[heap_grow_old _ _ (by simp[putRowK,putRow,mapBlock,J0];omega)]
 have:g≠k:=by omega
 simp[putRowK,putRow,mapBlock,J0,Array.getElem?_modify,this]
theorem KH[Inhabited Mem]{w:World}{g n:Nat}{d:Array Mem}{os:Array Obj}:Sh (λk=>k=g) w (Qy Mem.cs 5 w g 0 n d os):=by
 refine⟨rfl,rfl,rfl,by simp[Qy,putRowK,putRow,mapBlock,J0,grow],λk hk aT=>?_⟩;unfold Qy;rw[heap_grow_old _ _ (by simp[putRowK,putRow,mapBlock,J0];omega)]
 have:g≠k:=λe=>aT e.symm
 simp[putRowK,putRow,mapBlock,J0,Array.getElem?_modify,this]
def KI(l:List Mem):Prop:=∀i j,i<j->j<l.length->0<=bO (l.getD j dm).name (l.getD i dm).name
theorem BU(base:Nat)(l:List Mem)(g c:Nat)(w:World)(h:Own base w (J (AI ⟨g,0,be⟩) l.length c) l)(hb:base<=w.heap.size)(hl:l.length<=12) :
 aF 47 #[J (AI ⟨g,0,be⟩) l.length c,.func (.func 48) #[] #[]] w λe w'=>e=AT (Im #[])/\∃l':List Mem,l'.Perm l/\KI l'/\Own base w' (J (AI ⟨g,0,be⟩) l.length c) l'/\Go.RowKit.Below base w w'/\Sh (λk=>k=g) w w':=by
 have eg:∀args w,(callFunc 48 args).run AS w=.ok (.enter 48 args) w:=enters_of Tryz.func48 (by kernel_rfl) rfl;have di:=h.lt g rfl;have ael:Inhabited Mem:=⟨dm⟩;have pM:=AnyQ.slices_SortFunc_small_sorted Tryz.Wp 5 Tryz.isAgg50 Tryz.sizeOf50 Mem.cs bB db SP 48 #[] aec g 0 c l.toArray w eg (KC g 0 _ w) (EE h) di.2 (by simpa using hl) Wu;rw[List.size_toArray] at pM;refine Calls.mono pM ?_;rintro e w' ⟨rfl,d,n,os,hp,hs,rfl⟩;obtain⟨p1,_,p3⟩:=hp;have cC:d.size=l.length:=by simpa using p1
 refine⟨rfl,d.toList,?_,λi j jG hj=>?_,BL h d cC,zB di.1 hb,KH⟩
 .have e1:d.extract 0 l.length=d:=by rw[<- cC];simp
  have e2:l.toArray.extract 0 l.length=l.toArray:=by simp
  rw[e1,e2] at p3;simpa using p3
 .have Ef:j<d.size:=by simpa using hj
  have h2:=hs i j (IH _) jG (by rw[<- cC];exact Ef);have h3:¬ bO (d[j]!).name (d[i]!).name<0:=of_decide_eq_false h2;have e1:d[j]! = d.toList.getD j dm:=by simp[Iq,Ef]
  have e2:d[i]! = d.toList.getD i dm:=by simp[Iq,show i<d.size by omega]
  rw[e1,e2] at h3;omega
theorem EN(f:Value)(w:World) :
 aF 132 #[J be 0 0,U O 0,U O 0,f] w λe w'=>e=AT (Im #[])/\w'=w:=by
 go_enter Tryz.func132,Tryz.ntmps132;go_wp2_with fail;refine J8 1 ?_;rw[JQ];go_wp2_with fail;go_end0
 exact⟨rfl,rfl⟩
theorem EO(k:Int)(f:Value)(w:World) :
 aF 76 #[J be 0 0,U O 0,U O 0,U O k,f] w λe w'=>e=AT (Im #[])/\w'=w:=by
 go_enter Tryz.func76,Tryz.ntmps76;go_wp2_with fail;refine J8 1 ?_;rw[JQ];go_wp2_with (go_at_call 132;refine(EN _ _).mono ?_;rintro e w' ⟨rfl,rfl⟩)
 (try simp only[Exit.inBlock,Exit.then]);refine bodyPost_ret (results_none rfl _ _ _) rfl ?_
 exact⟨rfl,rfl⟩
theorem BV(f:Value)(w:World) :
 aF 47 #[J be 0 0,f] w λe w'=>e=AT (Im #[])/\w'=w:=by
 go_enter Tryz.func47,Tryz.ntmps47;go_wp2_with (go_at_call 71;refine(Tryz.bits_Len _ _ (by omega) (by omega)).mono ?_;rintro e w' ⟨rfl,rfl⟩);refine(EO _ _ _).mono ?_;rintro e w' ⟨rfl,rfl⟩;go_wp2_with fail;go_end0
 exact⟨rfl,rfl⟩
theorem EP(base:Nat)(l:List Mem)(v:Value)(w:World)(h:Own base w v l)(hb:base<=w.heap.size)(hl:l.length<=12) :
 aF 47 #[v,.func (.func 48) #[] #[]] w λe w'=>e=AT (Im #[])/\∃l':List Mem,l'.Perm l/\KI l'/\Own base w' v l'/\Go.RowKit.Below base w w'/\Sh (λk=>v.ownBlock=AI k) w w':=by
 rcases h.2 with⟨h1,h2⟩|⟨g,c,cur,h1,_⟩
 .subst h1
  have he:=Jd h2;subst he;refine(BV _ w).mono ?_;rintro e w' ⟨rfl,rfl⟩;exact⟨rfl,[],.refl _,λi j _ hj=>by simp at hj,bX _ _,Go.RowKit.Below.refl _ _,Sh.refl _ _⟩
 .subst h1
  refine(BU base l g c w h hb hl).mono ?_;rintro e w' ⟨rfl,l',h1,h2,h3,h4,h5⟩;exact⟨rfl,l',h1,h2,h3,h4,h5.mono (λk hk=>by rw[hk];rfl)⟩
end Go.Proofs.YtfidhgjmifendaaGreatDoor
namespace Go.Proofs.YtfidhgjmifendaaGreatDoor
open Go.RowKit Go.Sort Go.Shelf Go.Lib
theorem BW(v:Value)(w:World)(hv:mG w v []) :
 Calls AS 73 #[v] w λe w'=>e=AT (J be 0 0)/\Below w.heap.size w w':=by
 obtain⟨pa,ca,rfl,_,_⟩:=hv;simp only[IV];have hs:=λ(fv:Value) (W:World)=>AnyF.slices_SortFunc_none (P:=AS) (ρ:=Tryz.vO) { Tryz.PS with } be 0 fv W;have HS:Hid _:=hs;clear hs;have rH:Below w.heap.size w (w.alloc (.cells #[J pa 0 ca] 35)):=(Below.refl _ _).alloc (Ic _) _;go_enter Tryz.func73,Tryz.ntmps73;go_wp2_with fail;refine J8 1 ?_;rw[JQ];go_wp2_with fail;refine(HS.out _ _).mono ?_;rintro e w' ⟨rfl,rfl⟩;go_wp2_with fail;go_ret;exact⟨rfl,rH⟩
theorem tM(p:Option Addr)(c:Nat)(fv:Value)(w:World) :
 Calls AS 131 #[J p 0 c,fv] w λe w'=>e=AT (U O (-1))/\w'=w:=by
 go_enter Tryz.func131,Tryz.ntmps131;go_wp2_with fail;refine J8 1 ?_;rw[JQ];go_wp2_with fail;go_ret;exact⟨rfl,rfl⟩
theorem rO(p:Option Addr)(c:Nat)(fv:Value)(w:World) :
 Calls AS 74 #[J p 0 c,fv] w λe w'=>e=AT (J p 0 c)/\w'=w:=by
 go_enter Tryz.func74,Tryz.ntmps74;go_wp2_with fail;refine(tM _ _ _ _).mono ?_;rintro e w' ⟨rfl,rfl⟩;go_wp2_with fail;go_ret;exact⟨rfl,rfl⟩
theorem ER(v:Value)(most times:Int)(w:World)(hv:mG w v [])(h0:dV []=0)(hm:within most 1 20=true)(ht:within times 1 100=true) :
 Calls AS 46 #[v,U O most,U O times] w λe w'=>∃v1 v2,e=AT (Im #[v1,v2,U O 0])/\Own w.heap.size w' v1 []/\cE w.heap.size w' v2 []/\Below w.heap.size w w':=by
 have HV:Hid (mG w v []):=hv;have po:1<=most/\most<=20:=by simp[within] at hm;omega
 obtain⟨po,hm2⟩:=po;have jN:=λ(w:World) (h:mG w v [])=>gf [] v w h;rw[h0] at jN;obtain⟨pa,ca,rfl,_,_⟩:=hv;simp only[IV] at *;have rH:Below w.heap.size w (w.alloc (.cells #[U O times] 3)):=(Below.refl _ _).alloc (Ic _) _;go_enter Tryz.func46,Tryz.ntmps46;go_wp2_with fail;refine(jN _ (HV.out.below rH)).mono ?_;rintro e w1 ⟨rfl,aB⟩;have c1:w1.cell? ⟨w.heap.size,0,be⟩=AI (U O times):=by
  rw[aB.cell (p:=⟨w.heap.size,0,be⟩) (by simp)];exact cR rfl
 have aY:Hid _:=rH.trans (aB.mono (by simp));clear aB rH jN;go_wp2_with (go_at_call 54;refine(cf _ _ _ _).mono ?_;rintro e w' ⟨rfl,rfl⟩;first|rw[hm]|rw[ht]);refine(gh [] _ _ (HV.out.below aY.out) (by simp)).mono ?_;rintro e w3 ⟨v3,rfl,kZ,bU⟩;have dY:Hid (cE _ _ _ _):=kZ.base aY.out.size;have cF:Hid _:=aY.out.trans (bU.mono aY.out.size);clear bU kZ c1;go_wp2_with fail;refine(BW _ _ (HV.out.below cF.out)).mono ?_;rintro e w4 ⟨rfl,eP⟩;have fE:Hid _:=cF.out.trans (eP.mono cF.out.size);have nD:Hid (cE _ _ _ _):=dY.out.below eP;clear eP dY;obtain⟨g,c,yS⟩:∃g c,v3=J g 0 c:=by
  rcases nD.out.2 with⟨h,_⟩|⟨g,c,cur,h,_⟩
  .exact⟨_,_,h⟩
  .exact⟨_,_,h⟩
 subst yS;have adN:min most 0=0:=by omega
 go_wp2_with fail;refine J8 1 ?_;rw[JQ];go_wp2_with fail;refine(rO _ _ _ _).mono ?_;rintro e w' ⟨rfl,rfl⟩;go_wp2_with fail;go_ret3
 exact⟨_,_,rfl,bX _ _,nD.out,fE.out⟩
end Go.Proofs.YtfidhgjmifendaaGreatDoor
namespace Go.Proofs.YtfidhgjmifendaaGreatDoor
open Go.RowKit
theorem Tryz.Wv:(Tryz.prog.info? 9).map (λi=>(i.zero,i.size,i.bytes))=AI (AI (Y ⟨#[]⟩),1,16):=by kernel_rfl
abbrev rP(base:Nat)(w:World)(v:Value)(l:List ByteArray):Prop:=w.ownsRow base 9 1 v l.length (l.map Y)
theorem KJ(base:Nat)(w:World):rP base w (J be 0 0) []:=World.ownsRow_nil w base 9 1
theorem rP.below{base:Nat}{w w':World}{v:Value}{l:List ByteArray}(h:rP base w v l)(hb:Below w.heap.size w w'):rP base w' v l:=by
 rcases h.2 with⟨rfl,h0⟩|⟨g,c,cur,rfl,ey,hg,fK,dN,bZ,bf⟩
 .exact⟨h.1,.inl ⟨rfl,h0⟩⟩
 .have aR:=(Array.getElem?_eq_some_iff.1 hg).1
  exact⟨h.1,.inr ⟨g,c,cur,rfl,ey,(hb.block g aR).trans hg,fK,dN,bZ,bf⟩⟩
theorem rP.lt{base:Nat}{w:World}{v:Value}{l:List ByteArray}(h:rP base w v l)(k:Nat)(hk:v.ownBlock=AI k):base<=k/\k<w.heap.size:=World.ownsRow.lt h k hk
theorem vU{base:Nat}{w:World}{v:Value}{l:List ByteArray}{s:ByteArray}(h:w.ownsRow base 9 1 v (l.length+1) (l.map Y++[Y s])):rP base w v (l++[s]):=by
 show w.ownsRow base 9 1 v (l++[s]).length ((l++[s]).map Y);rw[List.length_append,O2];exact h
def isLive(m:Mem):Bool:=m.state==1||m.state==2
def eC(ms:List Mem):List ByteArray:=(ms.filter isLive).map Mem.name
theorem ET(ms:List Mem)(k:Nat)(hk:k<ms.length)(h:isLive (ms.getD k dm)=true):eC (ms.take (k+1))=eC (ms.take k)++[(ms.getD k dm).name]:=by
 have e:ms.getD k dm=ms[k]:=by simp[Iq,Ie hk]
 rw[e] at h ⊢;unfold eC;rw[II hk,Qq,O2];simp[h]
theorem KK(ms:List Mem)(k:Nat)(hk:k<ms.length)(h:isLive (ms.getD k dm)=false):eC (ms.take (k+1))=eC (ms.take k):=by
 have e:ms.getD k dm=ms[k]:=by simp[Iq,Ie hk]
 rw[e] at h;unfold eC;rw[II hk,Qq,O2];simp[h]
theorem EU(ms:List Mem)(k:Nat):(eC (ms.take k)).length<=k:=by
 unfold eC;rw[Oa];exact Nat.le_trans (List.length_filter_le _ _) (List.length_take_le _ _)
theorem EV(ms:List Mem)(v:Value)(w:World)(hv:Sl w v ms)(h0:bj ms=0) :
 Calls AS 44 #[v] w λe w'=>∃v',e=AT (Im #[v',U O 0])/\Hid (rP w.heap.size w' v' (eC ms))/\Below w.heap.size w w':=by
 obtain⟨i0,fW,dd,gY,gG⟩:=info_parts Tryz.Wv;have he:(bj ms !=0)=false:=by simpa using h0
 have hz:=af h0;have hlen:=hz.1;have HV:Hid (Sl w v ms):=hv;obtain⟨pa,ca,rfl,_,ha⟩:=hv;have HA:Hid _:=ha;clear ha h0 hz;generalize Dk:ms.length=n at *;have HN:Hid (ms.length=n):=Dk;clear Dk;go_enter Tryz.func44,Tryz.ntmps44;go_wp2_with fail;refine(bo ms _ _ HV.out).mono ?_;rintro e w1 ⟨rfl,aB⟩;go_wp2_with fail;go_loopw [5,15] (λkn i w'=>∃k:Nat,k<=n/\i=U O k/\Below w.heap.size w w'/\Hid (rP w.heap.size w' kn (eC (ms.take k)))) (λ_ i _=>n-(intOf i).toNat)
 case atStart=>exact⟨0,IH _,rfl,aB,KJ _ _⟩
 case round=>
  clear aB;obtain⟨k,hk,rfl,aN,HO⟩:=hrel;obtain⟨eG,nt⟩:=cj aN;have cC:=aN.size;by_cases aR:k<n
  .obtain⟨b1,o1,sX,Av,lg⟩:∃b off,pa=AI ⟨b,off,be⟩/\b<w.heap.size/\Row w b off ms:=by
    rcases HA.out with h|h
    .have:=HN.out;rw[h] at this;simp at this;omega
    .exact h
   subst sX;obtain⟨c0,c1,c2,c3,c4⟩:=lg k (by rw[HN.out];exact aR);clear lg;have HY:Hid (isLive (ms.getD k dm)=true->eC (ms.take (k+1))=eC (ms.take k)++[(ms.getD k dm).name]):=λh=>ET ms k (by rw[HN.out];exact aR) h;have HX:Hid (isLive (ms.getD k dm)=false->eC (ms.take (k+1))=eC (ms.take k)):=λh=>KK ms k (by rw[HN.out];exact aR) h;have hll:=EU ms k;generalize ms.getD k dm=mk at *;obtain⟨nk,sk,lk,ak,vk⟩:=mk;simp only at c0 c1 c2 c3 c4;have gi:sk=1\/sk=2\/(sk≠1/\sk≠2):=by omega
   rcases gi with h|h|⟨h,h'⟩
   .subst h
    have HY2:Hid (eC (ms.take (k+1))=eC (ms.take k)++[nk]):=HY.out rfl;clear HY HX;generalize eC (ms.take k)=L at *;go_wp2_with (at_builtin;refine Ja _ rfl _ _ 69 rfl w.heap.size 9 i0 _ 1 16 Tryz.underlying69 fW dd gY gG rfl (by omega) _ L.length (L.map Y) rfl ?hown ⟨wr.heap.size+1,0,be⟩ 1 1 [Y nk] rfl rfl ?hnews (by intro u hu;simp at hu;subst hu;rfl) ?h63 ?hbytes ?hbase ?_)
    case hown=>exact HO.out.below (((Below.refl _ _).alloc (Ic _) _).alloc (by simp) _)
    case hnews=>(intro j u hj;rw[Addr.add_lit];have hh:=ae (Ii (wr.alloc (.cells #[Y nk,U O 1,U O lk,U O ak,Ia vk] 50)) (.cells #[Y nk] 9)) (0+j);rw[show(wr.alloc (.cells #[Y nk,U O 1,U O lk,U O ak,Ia vk] 50)).heap.size=wr.heap.size+1 by simp] at hh;exact hh.trans (by simpa using hj))
    case h63=>(unfold Io;omega)
    case hbytes=>omega
    case hbase=>first|omega|(simp;omega)
    intro v' w2 r1 r2 r3;have gZ:Hid (rP w.heap.size w2 v' (L++[nk])):=vU r1;have bp:Hid (Below w.heap.size w w2):=((aN.alloc cC _).alloc (by simp;omega) _).grown r2 (by simp;omega) (λj hj=>(HO.out.lt j hj).1);go_wp2_with fail;exact⟨⟨k+1,by omega,by go_num,bp.out,by rw[HY2.out];exact gZ⟩,by simp[intOf];omega⟩
   .subst h
    have HY2:Hid (eC (ms.take (k+1))=eC (ms.take k)++[nk]):=HY.out rfl;clear HY HX;generalize eC (ms.take k)=L at *;go_wp2_with (at_builtin;refine Ja _ rfl _ _ 69 rfl w.heap.size 9 i0 _ 1 16 Tryz.underlying69 fW dd gY gG rfl (by omega) _ L.length (L.map Y) rfl ?hown ⟨wr.heap.size+1,0,be⟩ 1 1 [Y nk] rfl rfl ?hnews (by intro u hu;simp at hu;subst hu;rfl) ?h63 ?hbytes ?hbase ?_)
    case hown=>exact HO.out.below (((Below.refl _ _).alloc (Ic _) _).alloc (by simp) _)
    case hnews=>(intro j u hj;rw[Addr.add_lit];have hh:=ae (Ii (wr.alloc (.cells #[Y nk,U O 2,U O lk,U O ak,Ia vk] 50)) (.cells #[Y nk] 9)) (0+j);rw[show(wr.alloc (.cells #[Y nk,U O 2,U O lk,U O ak,Ia vk] 50)).heap.size=wr.heap.size+1 by simp] at hh;exact hh.trans (by simpa using hj))
    case h63=>(unfold Io;omega)
    case hbytes=>omega
    case hbase=>first|omega|(simp;omega)
    intro v' w2 r1 r2 r3;have gZ:Hid (rP _ _ _ _):=vU r1;have bp:Hid _:=((aN.alloc cC _).alloc (by simp;omega) _).grown r2 (by simp;omega) (λj hj=>(HO.out.lt j hj).1);go_wp2_with fail;exact⟨⟨k+1,by omega,by go_num,bp.out,by rw[HY2.out];exact gZ⟩,by simp[intOf];omega⟩
   .have e1:(sk==1)=false:=by simpa using h
    have e2:(sk==2)=false:=by simpa using h'
    have AO:Hid _:=HX.out (by simp[isLive,h,h']);clear HY HX h h';go_wp2_with fail;go_roundw
    case rel=>exact⟨k+1,by omega,by go_num,aN.alloc cC _,by rw[AO.out];exact HO.out.below ((Below.refl _ _).alloc (Ic _) _)⟩
    case measure=>simp[intOf];omega
  .have HF:Hid (rP w.heap.size wr u5 (eC ms)):=by
    have h:=HO.out;rw[List.take_of_length_le (by rw[HN.out];omega)] at h;exact h
   go_wp2_with fail;go_ret2;exact⟨u5,rfl,HF,aN⟩
def qL(rs:List bK)(times:Int)(told:List Mem)(rest:List bK):Prop:=
 (rs=[]/\told=[]/\rest=[])\/(0<rs.length/\∃ord,iQ rs ord/\told=gB rs ord (min 5 rs.length)/\rest=(bump rs ord (min 5 rs.length)).filter (ei times))
theorem tN{rs:List bK}{times:Int}{told:List Mem}{rest:List bK}(h:qL rs times told rest):told.length<=5:=by
 rcases h with⟨_,rfl,_⟩|⟨_,ord,_,rfl,_⟩
 .simp
 .unfold gB;rw[Oa,List.length_take];omega
theorem vV{rs:List bK}{ord:List Nat}{k:Nat}(h:iQ rs ord){m:Mem}(hm:m∈gB rs ord k):∃r∈rs,r.m=m:=by
 unfold gB at hm;obtain⟨i,hi,rfl⟩:=List.mem_map.1 hm;have hb:=h.bd i (Je hi);refine⟨rs[i],IG _,?_⟩;simp[Iq,Ie hb]
theorem zC(rs:List bK):∀(is:List Nat) (r:bK),r∈is.foldl eM rs->(∃x∈rs,x.m=r.m)\/r.m=dm
 |[],r,h=>.inl ⟨r,h,rfl⟩
 |i::is,r,h=>by
  rw[List.foldl_cons] at h;rcases zC (eM rs i) is r h with⟨x,hx,e⟩|e
  .unfold eM at hx
   rcases List.mem_or_eq_of_mem_set hx with hx|rfl
   .exact .inl ⟨x,hx,e⟩
   .by_cases hi:i<rs.length
    .exact .inl ⟨rs[i],IG _,by rw[<- e];simp[Iq,Ie hi]⟩
    .exact .inr (by rw[<- e];simp[Iq,List.getElem?_eq_none (Nat.le_of_not_lt hi),dr])
  .exact .inr e
theorem vW{rs:List bK}{times:Int}{told:List Mem}{rest:List bK}(h:qL rs times told rest)(hr:∀r∈rs,r.m.name.size<=Io):(∀m∈told,m.name.size<=Io)/\∀r∈rest,r.m.name.size<=Io:=by
 rcases h with⟨_,rfl,rfl⟩|⟨_,ord,ho,rfl,rfl⟩
 .exact⟨λm hm=>by simp at hm,λm hm=>by simp at hm⟩
 .refine⟨λm hm=>?_,λr EY=>?_⟩
  .obtain⟨r,h1,rfl⟩:=vV ho hm;exact hr r h1
  .have h1:=(List.mem_filter.1 EY).1
   rcases zC rs _ r h1 with⟨x,hx,e⟩|e
   .rw[<- e];exact hr x hx
   .rw[e];simp[dm]
theorem EZ(rs:List bK)(v:Value)(times:Int)(w:World)(hv:mG w v rs)(h0:dV rs=0)(ht:within times 1 100=true) :
 aF 46 #[v,U O 5,U O times] w λe w'=>∃a k c a2 k2 c2 told rest,e=AT (Im #[J a k c,J a2 k2 c2,U O 0])/\Hid (qL rs times told rest)/\Own w.heap.size w' (J a k c) told/\cE w.heap.size w' (J a2 k2 c2) rest/\Below w.heap.size w w':=by
 by_cases hp:0<rs.length
 .have hT:=BE rs v (rs.length-1) (by omega) (by have:=(ki h0).1;omega)
  refine(Et rs v 5 times w hv h0 rfl ht hp hT).mono ?_;rintro e w' ⟨v1,v2,ord,rfl,ho,h1,h2,hb⟩;obtain⟨a,c,rfl,_⟩:=aA h1;obtain⟨a2,c2,rfl,_⟩:=aA h2;exact⟨a,_,c,a2,_,c2,_,_,rfl,.inr ⟨hp,ord,ho,rfl,rfl⟩,h1,h2,hb⟩
 .have he:rs=[]:=Jd (by omega)
  subst he;refine(ER v 5 times w hv h0 rfl ht).mono ?_;rintro e w' ⟨v1,v2,rfl,h1,h2,hb⟩;obtain⟨a,c,rfl,_⟩:=aA h1;obtain⟨a2,c2,rfl,_⟩:=aA h2;exact⟨a,_,c,a2,_,c2,_,_,rfl,.inl ⟨rfl,rfl,rfl⟩,h1,h2,hb⟩
def T2(n:Nd):Int:=max (3*(Lib.bitLen (eC n.ms).length:Nat)) 1
def jT(n:Nd)(l:List Mem)(rest:List bK):Prop:=∃told,qL n.rs (T2 n) told rest/\l.Perm told/\KI l
theorem BX{rs:List bK}{ord:List Nat}(ho:iQ rs ord)(hd:dI rs)(k:Nat):(gB rs ord k).Pairwise λx y=>x.name≠y.name:=by
 unfold gB;rw[List.pairwise_map];have h1:(ord.take k).Nodup:=ho.nodup.sublist (List.take_sublist _ _);refine List.Pairwise.imp_of_mem ?_ h1;intro a b ha hb aT;have h2:=ho.bd a (Je ha);have h3:=ho.bd b (Je hb);rcases Nat.lt_or_gt_of_ne aT with h|h
 .exact hd a b h h3
 .exact(hd b a h h2).symm
theorem xC{rs:List bK}{times:Int}{told:List Mem}{rest:List bK}(h:qL rs times told rest)(hd:dI rs):told.Pairwise λx y=>x.name≠y.name:=by
 rcases h with⟨_,rfl,_⟩|⟨_,ord,ho,rfl,_⟩
 .exact .nil
 .exact BX ho hd _
end Go.Proofs.YtfidhgjmifendaaGreatDoor
