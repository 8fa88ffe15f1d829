import Derived.Test.YtfidhgjmifendaaGreatDoornt33
set_option maxHeartbeats 1600000
set_option maxRecDepth 100000
open Go.Value renaming int→U,slice→J,tuple→Ik,string→Y,bool→Ia
open Go.Ending renaming returned→By
open Go.IntKind renaming i64→O
open Go.Proofs renaming sortWorldK→Qz
open Go.Sort renaming ahead→J0
open Option renaming some→AI,none→be
open Go.Proofs.Tryz renaming prog→AS
open Nat renaming zero_le→II,le_refl→Ic
open List renaming getD→Ip,eq_nil_of_length_eq_zero→Je,length_nil→IW,map_append→O5,getElem?_eq_getElem→If,take_succ_eq_append_getElem→IF,filter_append→Qr,length_map→No,mem_of_mem_take→Jf,getElem_mem→IH
open Go renaming wp_loop_rounds→J7,rounds_succ→JS,wpList_append_own→Jd,heap_alloc_new→Ih,maxLen→Il
namespace Go.Proofs.YtfidhgjmifendaaGreatDoor
open Go.RowKit Go.Sort Go.Lib
theorem WL(n:Nat)(W:World)(h:n<=12):aF 71 #[U .u64 n] W λe w'=>(∃l:Int,e=By (U O l))/\w'=W:=
 (Tryz.bits_Len n W (by omega) (by omega)).mono λ_ _ ⟨he,hw⟩=>⟨⟨_,he⟩,hw⟩
theorem zM[Inhabited Mem]{B:Nat}{w:World}{g n:Nat}{d:Array Mem}{os:Array Obj}(hg:B<=g)(hB:B<=w.heap.size):Go.RowKit.Below B w (Qz Mem.cs 5 w g 0 n d os):=by
 refine⟨rfl,rfl,rfl,by simp[Qz,putRowK,putRow,mapBlock,J0,grow],λk hk=>?_⟩;unfold Qz;rw[Go.Sort.heap_grow_old _ _ (by simp[putRowK,putRow,mapBlock,J0];omega)]
 have:g≠k:=by omega
 simp[putRowK,putRow,mapBlock,J0,Array.getElem?_modify,this]
theorem KG[Inhabited Mem]{w:World}{g n:Nat}{d:Array Mem}{os:Array Obj}:Sh (λk=>k=g) w (Qz Mem.cs 5 w g 0 n d os):=by
 refine⟨rfl,rfl,rfl,by simp[Qz,putRowK,putRow,mapBlock,J0,grow],λk hk aM=>?_⟩;unfold Qz;rw[Go.Sort.heap_grow_old _ _ (by simp[putRowK,putRow,mapBlock,J0];omega)]
 have:g≠k:=λe=>aM e.symm
 simp[putRowK,putRow,mapBlock,J0,Array.getElem?_modify,this]
def KH(l:List Mem):Prop:=∀i j,i<j->j<l.length->0<=bO (l.getD j dm).name (l.getD i dm).name
theorem BV(base:Nat)(l:List Mem)(g c:Nat)(w:World)(h:Own base w (J (AI ⟨g,0,be⟩) l.length c) l)(hb:base<=w.heap.size)(hl:l.length<=12) :
 aF 47 #[J (AI ⟨g,0,be⟩) l.length c,.func (.func 48) #[] #[]] w λe w'=>e=By (Ik #[])/\∃l':List Mem,l'.Perm l/\KH l'/\Own base w' (J (AI ⟨g,0,be⟩) l.length c) l'/\Go.RowKit.Below base w w'/\Sh (λk=>k=g) w w':=by
 have eg:∀args w,(callFunc 48 args).run AS w=.ok (.enter 48 args) w:=enters_of Tryz.func48 (by kernel_rfl) rfl;have dn:=h.lt g rfl;have aek:Inhabited Mem:=⟨dm⟩;have pS:=AnyQ.slices_SortFunc_small_sorted Tryz.Wq 5 Tryz.isAgg50 Tryz.sizeOf50 Mem.cs bB df SI 48 #[] aec g 0 c l.toArray w eg (Ky g 0 _ w) (EK h) dn.2 (by simpa using hl) WL;rw[List.size_toArray] at pS;refine Calls.mono pS ?_;rintro e w' ⟨rfl,d,n,os,hp,hs,rfl⟩;obtain⟨p1,_,p3⟩:=hp;have cF:d.size=l.length:=by simpa using p1
 refine⟨rfl,d.toList,?_,λi j iY hj=>?_,BP h d cF,zM dn.1 hb,KG⟩
 .have e1:d.extract 0 l.length=d:=by rw[<- cF];simp
  have e2:l.toArray.extract 0 l.length=l.toArray:=by simp
  rw[e1,e2] at p3;simpa using p3
 .have Ea:j<d.size:=by simpa using hj
  have h2:=hs i j (II _) iY (by rw[<- cF];exact Ea);have h3:¬ bO (d[j]!).name (d[i]!).name<0:=of_decide_eq_false h2;have e1:d[j]! = d.toList.getD j dm:=by simp[Ip,Ea]
  have e2:d[i]! = d.toList.getD i dm:=by simp[Ip,show i<d.size by omega]
  rw[e1,e2] at h3;omega
theorem E5(f:Value)(w:World) :
 aF 132 #[J be 0 0,U O 0,U O 0,f] w λe w'=>e=By (Ik #[])/\w'=w:=by
 go_enter Tryz.func132,Tryz.ntmps132;go_wp2_with fail;refine J7 1 ?_;rw[JS];go_wp2_with fail;go_end0
 exact⟨rfl,rfl⟩
theorem E6(k:Int)(f:Value)(w:World) :
 aF 76 #[J be 0 0,U O 0,U O 0,U O k,f] w λe w'=>e=By (Ik #[])/\w'=w:=by
 go_enter Tryz.func76,Tryz.ntmps76;go_wp2_with fail;refine J7 1 ?_;rw[JS];go_wp2_with (go_at_call 132;refine(E5 _ _).mono ?_;rintro e w' ⟨rfl,rfl⟩)
 (try simp only[Exit.inBlock,Exit.then]);refine bodyPost_ret (results_none rfl _ _ _) rfl ?_
 exact⟨rfl,rfl⟩
theorem BW(f:Value)(w:World) :
 aF 47 #[J be 0 0,f] w λe w'=>e=By (Ik #[])/\w'=w:=by
 go_enter Tryz.func47,Tryz.ntmps47;go_wp2_with (go_at_call 71;refine(Tryz.bits_Len _ _ (by omega) (by omega)).mono ?_;rintro e w' ⟨rfl,rfl⟩);refine(E6 _ _ _).mono ?_;rintro e w' ⟨rfl,rfl⟩;go_wp2_with fail;go_end0
 exact⟨rfl,rfl⟩
theorem E7(base:Nat)(l:List Mem)(v:Value)(w:World)(h:Own base w v l)(hb:base<=w.heap.size)(hl:l.length<=12) :
 aF 47 #[v,.func (.func 48) #[] #[]] w λe w'=>e=By (Ik #[])/\∃l':List Mem,l'.Perm l/\KH l'/\Own base w' v l'/\Go.RowKit.Below base w w'/\Sh (λk=>v.ownBlock=AI k) w w':=by
 rcases h.2 with⟨h1,h2⟩|⟨g,c,cur,h1,_⟩
 .subst h1
  have he:=Je h2;subst he;refine(BW _ w).mono ?_;rintro e w' ⟨rfl,rfl⟩;exact⟨rfl,[],.refl _,λi j _ hj=>by simp at hj,bY _ _,Go.RowKit.Below.refl _ _,Sh.refl _ _⟩
 .subst h1
  refine(BV base l g c w h hb hl).mono ?_;rintro e w' ⟨rfl,l',h1,h2,h3,h4,h5⟩;exact⟨rfl,l',h1,h2,h3,h4,h5.mono (λk hk=>by rw[hk];rfl)⟩
end Go.Proofs.YtfidhgjmifendaaGreatDoor
namespace Go.Proofs.YtfidhgjmifendaaGreatDoor
open Go.RowKit Go.Sort Go.Shelf Go.Lib
theorem BX(v:Value)(w:World)(hv:mJ w v []) :
 Calls AS 73 #[v] w λe w'=>e=By (J be 0 0)/\Below w.heap.size w w':=by
 obtain⟨pa,ca,rfl,_,_⟩:=hv;simp only[IW];have hs:=λ(fv:Value) (W:World)=>AnyF.slices_SortFunc_none (P:=AS) (ρ:=Tryz.vW) { Tryz.PO with } be 0 fv W;have HS:Hid _:=hs;clear hs;have rO:Below w.heap.size w (w.alloc (.cells #[J pa 0 ca] 35)):=(Below.refl _ _).alloc (Ic _) _;go_enter Tryz.func73,Tryz.ntmps73;go_wp2_with fail;refine J7 1 ?_;rw[JS];go_wp2_with fail;refine(HS.out _ _).mono ?_;rintro e w' ⟨rfl,rfl⟩;go_wp2_with fail;go_ret;exact⟨rfl,rO⟩
theorem tR(p:Option Addr)(c:Nat)(fv:Value)(w:World) :
 Calls AS 131 #[J p 0 c,fv] w λe w'=>e=By (U O (-1))/\w'=w:=by
 go_enter Tryz.func131,Tryz.ntmps131;go_wp2_with fail;refine J7 1 ?_;rw[JS];go_wp2_with fail;go_ret;exact⟨rfl,rfl⟩
theorem rV(p:Option Addr)(c:Nat)(fv:Value)(w:World) :
 Calls AS 74 #[J p 0 c,fv] w λe w'=>e=By (J p 0 c)/\w'=w:=by
 go_enter Tryz.func74,Tryz.ntmps74;go_wp2_with fail;refine(tR _ _ _ _).mono ?_;rintro e w' ⟨rfl,rfl⟩;go_wp2_with fail;go_ret;exact⟨rfl,rfl⟩
theorem E8(v:Value)(most times:Int)(w:World)(hv:mJ w v [])(h0:dW []=0)(hm:within most 1 20=true)(ht:within times 1 100=true) :
 Calls AS 46 #[v,U O most,U O times] w λe w'=>∃v1 v2,e=By (Ik #[v1,v2,U O 0])/\Own w.heap.size w' v1 []/\cH w.heap.size w' v2 []/\Below w.heap.size w w':=by
 have HV:Hid (mJ w v []):=hv;have pF:1<=most/\most<=20:=by simp[within] at hm;omega
 obtain⟨pF,hm2⟩:=pF;have jQ:=λ(w:World) (h:mJ w v [])=>fW [] v w h;rw[h0] at jQ;obtain⟨pa,ca,rfl,_,_⟩:=hv;simp only[IW] at *;have rO:Below w.heap.size w (w.alloc (.cells #[U O times] 3)):=(Below.refl _ _).alloc (Ic _) _;go_enter Tryz.func46,Tryz.ntmps46;go_wp2_with fail;refine(jQ _ (HV.out.below rO)).mono ?_;rintro e w1 ⟨rfl,aB⟩;have c1:w1.cell? ⟨w.heap.size,0,be⟩=AI (U O times):=by
  rw[aB.cell (p:=⟨w.heap.size,0,be⟩) (by simp)];exact cT rfl
 have aV:Hid _:=rO.trans (aB.mono (by simp));clear aB rO jQ;go_wp2_with (go_at_call 54;refine(cy _ _ _ _).mono ?_;rintro e w' ⟨rfl,rfl⟩;first|rw[hm]|rw[ht]);refine(fX [] _ _ (HV.out.below aV.out) (by simp)).mono ?_;rintro e w3 ⟨v3,rfl,lh,bV⟩;have dY:Hid (cH _ _ _ _):=lh.base aV.out.size;have cj:Hid _:=aV.out.trans (bV.mono aV.out.size);clear bV lh c1;go_wp2_with fail;refine(BX _ _ (HV.out.below cj.out)).mono ?_;rintro e w4 ⟨rfl,eO⟩;have eP:Hid _:=cj.out.trans (eO.mono cj.out.size);have nH:Hid (cH _ _ _ _):=dY.out.below eO;clear eO dY;obtain⟨g,c,zd⟩:∃g c,v3=J g 0 c:=by
  rcases nH.out.2 with⟨h,_⟩|⟨g,c,cur,h,_⟩
  .exact⟨_,_,h⟩
  .exact⟨_,_,h⟩
 subst zd;have ad5:min most 0=0:=by omega
 go_wp2_with fail;refine J7 1 ?_;rw[JS];go_wp2_with fail;refine(rV _ _ _ _).mono ?_;rintro e w' ⟨rfl,rfl⟩;go_wp2_with fail;go_ret3
 exact⟨_,_,rfl,bY _ _,nH.out,eP.out⟩
end Go.Proofs.YtfidhgjmifendaaGreatDoor
namespace Go.Proofs.YtfidhgjmifendaaGreatDoor
open Go.RowKit
theorem Tryz.WM:(Tryz.prog.info? 9).map (λi=>(i.zero,i.size,i.bytes))=AI (AI (Y ⟨#[]⟩),1,16):=by kernel_rfl
abbrev rW(base:Nat)(w:World)(v:Value)(l:List ByteArray):Prop:=w.ownsRow base 9 1 v l.length (l.map Y)
theorem KI(base:Nat)(w:World):rW base w (J be 0 0) []:=World.ownsRow_nil w base 9 1
theorem rW.below{base:Nat}{w w':World}{v:Value}{l:List ByteArray}(h:rW base w v l)(hb:Below w.heap.size w w'):rW base w' v l:=by
 rcases h.2 with⟨rfl,h0⟩|⟨g,c,cur,rfl,ev,hg,fG,dO,b9,bf⟩
 .exact⟨h.1,.inl ⟨rfl,h0⟩⟩
 .have aW:=(Array.getElem?_eq_some_iff.1 hg).1
  exact⟨h.1,.inr ⟨g,c,cur,rfl,ev,(hb.block g aW).trans hg,fG,dO,b9,bf⟩⟩
theorem rW.lt{base:Nat}{w:World}{v:Value}{l:List ByteArray}(h:rW base w v l)(k:Nat)(hk:v.ownBlock=AI k):base<=k/\k<w.heap.size:=World.ownsRow.lt h k hk
theorem vY{base:Nat}{w:World}{v:Value}{l:List ByteArray}{s:ByteArray}(h:w.ownsRow base 9 1 v (l.length+1) (l.map Y++[Y s])):rW base w v (l++[s]):=by
 show w.ownsRow base 9 1 v (l++[s]).length ((l++[s]).map Y);rw[List.length_append,O5];exact h
def isLive(m:Mem):Bool:=m.state==1||m.state==2
def eC(ms:List Mem):List ByteArray:=(ms.filter isLive).map Mem.name
theorem E9(ms:List Mem)(k:Nat)(hk:k<ms.length)(h:isLive (ms.getD k dm)=true):eC (ms.take (k+1))=eC (ms.take k)++[(ms.getD k dm).name]:=by
 have e:ms.getD k dm=ms[k]:=by simp[Ip,If hk]
 rw[e] at h ⊢;unfold eC;rw[IF hk,Qr,O5];simp[h]
theorem KJ(ms:List Mem)(k:Nat)(hk:k<ms.length)(h:isLive (ms.getD k dm)=false):eC (ms.take (k+1))=eC (ms.take k):=by
 have e:ms.getD k dm=ms[k]:=by simp[Ip,If hk]
 rw[e] at h;unfold eC;rw[IF hk,Qr,O5];simp[h]
theorem Fa(ms:List Mem)(k:Nat):(eC (ms.take k)).length<=k:=by
 unfold eC;rw[No];exact Nat.le_trans (List.length_filter_le _ _) (List.length_take_le _ _)
theorem Fb(ms:List Mem)(v:Value)(w:World)(hv:Sl w v ms)(h0:bj ms=0) :
 Calls AS 44 #[v] w λe w'=>∃v',e=By (Ik #[v',U O 0])/\Hid (rW w.heap.size w' v' (eC ms))/\Below w.heap.size w w':=by
 obtain⟨i0,fL,dh,gW,gG⟩:=info_parts Tryz.WM;have he:(bj ms !=0)=false:=by simpa using h0
 have hz:=af h0;have hlen:=hz.1;have HV:Hid (Sl w v ms):=hv;obtain⟨pa,ca,rfl,_,ha⟩:=hv;have HA:Hid _:=ha;clear ha h0 hz;generalize Ho:ms.length=n at *;have HN:Hid (ms.length=n):=Ho;clear Ho;go_enter Tryz.func44,Tryz.ntmps44;go_wp2_with fail;refine(bo ms _ _ HV.out).mono ?_;rintro e w1 ⟨rfl,aB⟩;go_wp2_with fail;go_loopw [5,15] (λkn i w'=>∃k:Nat,k<=n/\i=U O k/\Below w.heap.size w w'/\Hid (rW w.heap.size w' kn (eC (ms.take k)))) (λ_ i _=>n-(intOf i).toNat)
 case atStart=>exact⟨0,II _,rfl,aB,KI _ _⟩
 case round=>
  clear aB;obtain⟨k,hk,rfl,aN,HO⟩:=hrel;obtain⟨eG,nz⟩:=cz aN;have cF:=aN.size;by_cases aW:k<n
  .obtain⟨b1,o1,uP,Bd,mj⟩:∃b off,pa=AI ⟨b,off,be⟩/\b<w.heap.size/\Row w b off ms:=by
    rcases HA.out with h|h
    .have:=HN.out;rw[h] at this;simp at this;omega
    .exact h
   subst uP;obtain⟨c0,c1,c2,c3,c4⟩:=mj k (by rw[HN.out];exact aW);clear mj;have HY:Hid (isLive (ms.getD k dm)=true->eC (ms.take (k+1))=eC (ms.take k)++[(ms.getD k dm).name]):=λh=>E9 ms k (by rw[HN.out];exact aW) h;have HX:Hid (isLive (ms.getD k dm)=false->eC (ms.take (k+1))=eC (ms.take k)):=λh=>KJ ms k (by rw[HN.out];exact aW) h;have hll:=Fa ms k;generalize ms.getD k dm=mk at *;obtain⟨nk,sk,lk,ak,vk⟩:=mk;simp only at c0 c1 c2 c3 c4;have fZ:sk=1\/sk=2\/(sk≠1/\sk≠2):=by omega
   rcases fZ with h|h|⟨h,h'⟩
   .subst h
    have HY2:Hid (eC (ms.take (k+1))=eC (ms.take k)++[nk]):=HY.out rfl;clear HY HX;generalize eC (ms.take k)=L at *;go_wp2_with (at_builtin;refine Jd _ rfl _ _ 69 rfl w.heap.size 9 i0 _ 1 16 Tryz.underlying69 fL dh gW gG rfl (by omega) _ L.length (L.map Y) rfl ?hown ⟨wr.heap.size+1,0,be⟩ 1 1 [Y nk] rfl rfl ?hnews (by intro u hu;simp at hu;subst hu;rfl) ?h63 ?hbytes ?hbase ?_)
    case hown=>exact HO.out.below (((Below.refl _ _).alloc (Ic _) _).alloc (by simp) _)
    case hnews=>(intro j u hj;rw[Addr.add_lit];have hh:=ae (Ih (wr.alloc (.cells #[Y nk,U O 1,U O lk,U O ak,Ia vk] 50)) (.cells #[Y nk] 9)) (0+j);rw[show(wr.alloc (.cells #[Y nk,U O 1,U O lk,U O ak,Ia vk] 50)).heap.size=wr.heap.size+1 by simp] at hh;exact hh.trans (by simpa using hj))
    case h63=>(unfold Il;omega)
    case hbytes=>omega
    case hbase=>first|omega|(simp;omega)
    intro v' w2 r1 r2 r3;have gX:Hid (rW w.heap.size w2 v' (L++[nk])):=vY r1;have bp:Hid (Below w.heap.size w w2):=((aN.alloc cF _).alloc (by simp;omega) _).grown r2 (by simp;omega) (λj hj=>(HO.out.lt j hj).1);go_wp2_with fail;exact⟨⟨k+1,by omega,by go_num,bp.out,by rw[HY2.out];exact gX⟩,by simp[intOf];omega⟩
   .subst h
    have HY2:Hid (eC (ms.take (k+1))=eC (ms.take k)++[nk]):=HY.out rfl;clear HY HX;generalize eC (ms.take k)=L at *;go_wp2_with (at_builtin;refine Jd _ rfl _ _ 69 rfl w.heap.size 9 i0 _ 1 16 Tryz.underlying69 fL dh gW gG rfl (by omega) _ L.length (L.map Y) rfl ?hown ⟨wr.heap.size+1,0,be⟩ 1 1 [Y nk] rfl rfl ?hnews (by intro u hu;simp at hu;subst hu;rfl) ?h63 ?hbytes ?hbase ?_)
    case hown=>exact HO.out.below (((Below.refl _ _).alloc (Ic _) _).alloc (by simp) _)
    case hnews=>(intro j u hj;rw[Addr.add_lit];have hh:=ae (Ih (wr.alloc (.cells #[Y nk,U O 2,U O lk,U O ak,Ia vk] 50)) (.cells #[Y nk] 9)) (0+j);rw[show(wr.alloc (.cells #[Y nk,U O 2,U O lk,U O ak,Ia vk] 50)).heap.size=wr.heap.size+1 by simp] at hh;exact hh.trans (by simpa using hj))
    case h63=>(unfold Il;omega)
    case hbytes=>omega
    case hbase=>first|omega|(simp;omega)
    intro v' w2 r1 r2 r3;have gX:Hid (rW _ _ _ _):=vY r1;have bp:Hid _:=((aN.alloc cF _).alloc (by simp;omega) _).grown r2 (by simp;omega) (λj hj=>(HO.out.lt j hj).1);go_wp2_with fail;exact⟨⟨k+1,by omega,by go_num,bp.out,by rw[HY2.out];exact gX⟩,by simp[intOf];omega⟩
   .have e1:(sk==1)=false:=by simpa using h
    have e2:(sk==2)=false:=by simpa using h'
    have si:Hid _:=HX.out (by simp[isLive,h,h']);clear HY HX h h';go_wp2_with fail;go_roundw
    case rel=>exact⟨k+1,by omega,by go_num,aN.alloc cF _,by rw[si.out];exact HO.out.below ((Below.refl _ _).alloc (Ic _) _)⟩
    case measure=>simp[intOf];omega
  .have HF:Hid (rW w.heap.size wr u5 (eC ms)):=by
    have h:=HO.out;rw[List.take_of_length_le (by rw[HN.out];omega)] at h;exact h
   go_wp2_with fail;go_ret2;exact⟨u5,rfl,HF,aN⟩
def qS(rs:List bL)(times:Int)(told:List Mem)(rest:List bL):Prop:=
 (rs=[]/\told=[]/\rest=[])\/(0<rs.length/\∃ord,iR rs ord/\told=gv rs ord (min 5 rs.length)/\rest=(bump rs ord (min 5 rs.length)).filter (ei times))
theorem tS{rs:List bL}{times:Int}{told:List Mem}{rest:List bL}(h:qS rs times told rest):told.length<=5:=by
 rcases h with⟨_,rfl,_⟩|⟨_,ord,_,rfl,_⟩
 .simp
 .unfold gv;rw[No,List.length_take];omega
theorem qT{rs:List bL}{ord:List Nat}{k:Nat}(h:iR rs ord){m:Mem}(hm:m∈gv rs ord k):∃r∈rs,r.m=m:=by
 unfold gv at hm;obtain⟨i,hi,rfl⟩:=List.mem_map.1 hm;have hb:=h.bd i (Jf hi);refine⟨rs[i],IH _,?_⟩;simp[Ip,If hb]
theorem zN(rs:List bL):∀(is:List Nat) (r:bL),r∈is.foldl eK rs->(∃x∈rs,x.m=r.m)\/r.m=dm
 |[],r,h=>.inl ⟨r,h,rfl⟩
 |i::is,r,h=>by
  rw[List.foldl_cons] at h;rcases zN (eK rs i) is r h with⟨x,hx,e⟩|e
  .unfold eK at hx
   rcases List.mem_or_eq_of_mem_set hx with hx|rfl
   .exact .inl ⟨x,hx,e⟩
   .by_cases hi:i<rs.length
    .exact .inl ⟨rs[i],IH _,by rw[<- e];simp[Ip,If hi]⟩
    .exact .inr (by rw[<- e];simp[Ip,List.getElem?_eq_none (Nat.le_of_not_lt hi),dr])
  .exact .inr e
theorem vZ{rs:List bL}{times:Int}{told:List Mem}{rest:List bL}(h:qS rs times told rest)(hr:∀r∈rs,r.m.name.size<=Il):(∀m∈told,m.name.size<=Il)/\∀r∈rest,r.m.name.size<=Il:=by
 rcases h with⟨_,rfl,rfl⟩|⟨_,ord,ho,rfl,rfl⟩
 .exact⟨λm hm=>by simp at hm,λm hm=>by simp at hm⟩
 .refine⟨λm hm=>?_,λr EU=>?_⟩
  .obtain⟨r,h1,rfl⟩:=qT ho hm;exact hr r h1
  .have h1:=(List.mem_filter.1 EU).1
   rcases zN rs _ r h1 with⟨x,hx,e⟩|e
   .rw[<- e];exact hr x hx
   .rw[e];simp[dm]
theorem Fc(rs:List bL)(v:Value)(times:Int)(w:World)(hv:mJ w v rs)(h0:dW rs=0)(ht:within times 1 100=true) :
 aF 46 #[v,U O 5,U O times] w λe w'=>∃a k c a2 k2 c2 told rest,e=By (Ik #[J a k c,J a2 k2 c2,U O 0])/\Hid (qS rs times told rest)/\Own w.heap.size w' (J a k c) told/\cH w.heap.size w' (J a2 k2 c2) rest/\Below w.heap.size w w':=by
 by_cases hp:0<rs.length
 .have hT:=BO rs v (rs.length-1) (by omega) (by have:=(lL h0).1;omega)
  refine(EE rs v 5 times w hv h0 rfl ht hp hT).mono ?_;rintro e w' ⟨v1,v2,ord,rfl,ho,h1,h2,hb⟩;obtain⟨a,c,rfl,_⟩:=aA h1;obtain⟨a2,c2,rfl,_⟩:=aA h2;exact⟨a,_,c,a2,_,c2,_,_,rfl,.inr ⟨hp,ord,ho,rfl,rfl⟩,h1,h2,hb⟩
 .have he:rs=[]:=Je (by omega)
  subst he;refine(E8 v 5 times w hv h0 rfl ht).mono ?_;rintro e w' ⟨v1,v2,rfl,h1,h2,hb⟩;obtain⟨a,c,rfl,_⟩:=aA h1;obtain⟨a2,c2,rfl,_⟩:=aA h2;exact⟨a,_,c,a2,_,c2,_,_,rfl,.inl ⟨rfl,rfl,rfl⟩,h1,h2,hb⟩
def TZ(n:Nd):Int:=max (3*(Lib.bitLen (eC n.ms).length:Nat)) 1
def jk(n:Nd)(l:List Mem)(rest:List bL):Prop:=∃told,qS n.rs (TZ n) told rest/\l.Perm told/\KH l
theorem BZ{rs:List bL}{ord:List Nat}(ho:iR rs ord)(hd:dJ rs)(k:Nat):(gv rs ord k).Pairwise λx y=>x.name≠y.name:=by
 unfold gv;rw[List.pairwise_map];have h1:(ord.take k).Nodup:=ho.nodup.sublist (List.take_sublist _ _);refine List.Pairwise.imp_of_mem ?_ h1;intro a b ha hb aM;have h2:=ho.bd a (Jf ha);have h3:=ho.bd b (Jf hb);rcases Nat.lt_or_gt_of_ne aM with h|h
 .exact hd a b h h3
 .exact(hd b a h h2).symm
theorem xO{rs:List bL}{times:Int}{told:List Mem}{rest:List bL}(h:qS rs times told rest)(hd:dJ rs):told.Pairwise λx y=>x.name≠y.name:=by
 rcases h with⟨_,rfl,_⟩|⟨_,ord,ho,rfl,_⟩
 .exact .nil
 .exact BZ ho hd _
end Go.Proofs.YtfidhgjmifendaaGreatDoor
