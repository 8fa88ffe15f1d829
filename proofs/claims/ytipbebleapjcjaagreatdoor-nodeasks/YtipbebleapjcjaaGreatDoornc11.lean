import Derived.Test.YtipbebleapjcjaaGreatDoornc1
set_option maxHeartbeats 6400000
set_option maxRecDepth 100000
open Bool renaming eq_iff_iff->JH
open Go renaming cell_regrown->Im,heap_alloc_new->Ii,maxLen->Il,redrawn->IG,wpList_append_own->IY,wp_region_quiet_below->IX
open Go.Ending renaming returned->Ia
open Go.IntKind renaming i64->J
open Go.Obj renaming cells->Ib
open Go.Proofs.Tryz renaming func38->O4,ntmps38->OS,prog->AT,underlying24->Oz
open Go.RowKit.Below renaming refl->If
open Go.Sort renaming grow->Is
open Go.Value renaming agg->Iu,bool->Ic,int->O,slice->sh,string->I
open List renaming filter_append->JJ,length_take_le->Oh,take_of_length_le->IJ,take_succ_eq_append_getElem->Iz
open Nat renaming le_refl->By,lt_of_lt_of_le->Ix,lt_succ_iff_lt_or_eq->IL,not_lt_zero->IV,zero_le->Iw
open Option renaming none->U,some->AI
open Go.Proofs.Tryz
namespace Go.Proofs.YtipbebleapjcjaaGreatDoor
namespace Sv
open Go.RowKit
theorem VY(t:ByteArray)(W:World)(g:Nat)(hs:t.size<=Il)(hg:W.heap[g]?=AI (Ib #[I t] 9 (0,0))) :
 Calls AT 164 #[sh (AI ⟨g,0,U⟩) 1 1] W λe w'=>e=Ia (Ic (xI t))/\w'=W:=acz t W g hs hg
def XH(m:nj):Bool:=[m.node,m.oI,m.name].all mT
theorem nj.aor(m:nj):m.e=if XH m=true then(if xI m.tag=true then(if within m.addr 0 4294967295=true then(if within m.port 0 65535=true then(if within m.version 1 1000000=true then 0 else 3) else 3) else 3) else 1) else 1:=by
 unfold nj.e XH;simp only[List.all_cons,List.all_nil,Bool.and_true];cases mT m.node<;>cases mT m.oI<;>cases mT m.name<;>cases xI m.tag<;>cases within m.addr 0 4294967295<;>cases within m.port 0 65535<;>cases within m.version 1 1000000<;>rfl
theorem M6(m:nj)(hm:m.ok)(W:World)(g:Nat)(hg:W.heap[g]?=AI (Ib #[I m.node,I m.oI,I m.name] 9 (0,0))) :
 Calls AT 50 #[sh (AI ⟨g,0,U⟩) 3 3] W λe w'=>e=Ia (Ic (XH m))/\w'=W:=by
 refine AQ [m.node,m.oI,m.name] g 3 W (λj hj=>?_) (λj=>?_) (by simp)
 .rw[fi hg]
  have:j=0\/j=1\/j=2:=by simp at hj;omega
  rcases this with rfl|rfl|rfl<;>rfl
 .obtain⟨h1,h2,h3,h4⟩:=hm
  match j with
  |0=>exact h1
  |1=>exact h2
  |2=>exact h3
  |_+3=>simp[List.getD]
theorem wD(m:nj)(w:World)(hm:m.ok) :
 Calls AT 110 #[Iu #[I m.node,I m.oI,I m.name,I m.tag,O J m.addr,O J m.port,Ic m.ny,O J m.version,Ic m.gone]] w λe w'=>e=Ia (O J m.e)/\Below w.heap.size w w':=by
 have hs:m.tag.size<=Il:=hm.2.2.2;have hB:Hid (Below w.heap.size w ((w.alloc (Ib #[I m.node,I m.oI,I m.name,I m.tag,O J m.addr,O J m.port,Ic m.ny,O J m.version,Ic m.gone] 93)).alloc (Ib #[I m.node,I m.oI,I m.name] 9))):=((If _ _).alloc (By _) _).alloc (by simp) _;have hg:((w.alloc (Ib #[I m.node,I m.oI,I m.name,I m.tag,O J m.addr,O J m.port,Ic m.ny,O J m.version,Ic m.gone] 93)).alloc (Ib #[I m.node,I m.oI,I m.name] 9)).heap[w.heap.size+1]?=AI (Ib #[I m.node,I m.oI,I m.name] 9 (0,0)):=by
  have h:=Ii (w.alloc (Ib #[I m.node,I m.oI,I m.name,I m.tag,O J m.addr,O J m.port,Ic m.ny,O J m.version,Ic m.gone] 93)) (Ib #[I m.node,I m.oI,I m.name] 9);simpa using h
 have HL:Hid (Calls AT 50 #[sh (AI ⟨w.heap.size+1,0,U⟩) 3 3] ((w.alloc (Ib #[I m.node,I m.oI,I m.name,I m.tag,O J m.addr,O J m.port,Ic m.ny,O J m.version,Ic m.gone] 93)).alloc (Ib #[I m.node,I m.oI,I m.name] 9)) λe w'=>e=Ia (Ic (XH m))/\w'=(w.alloc (Ib #[I m.node,I m.oI,I m.name,I m.tag,O J m.addr,O J m.port,Ic m.ny,O J m.version,Ic m.gone] 93)).alloc (Ib #[I m.node,I m.oI,I m.name] 9)):=M6 m hm _ _ hg;clear hg;have hB3:Hid (Below w.heap.size w (((w.alloc (Ib #[I m.node,I m.oI,I m.name,I m.tag,O J m.addr,O J m.port,Ic m.ny,O J m.version,Ic m.gone] 93)).alloc (Ib #[I m.node,I m.oI,I m.name] 9)).alloc (Ib #[I m.tag] 9))):=hB.out.alloc (by simp;omega) _;have Cv:(((w.alloc (Ib #[I m.node,I m.oI,I m.name,I m.tag,O J m.addr,O J m.port,Ic m.ny,O J m.version,Ic m.gone] 93)).alloc (Ib #[I m.node,I m.oI,I m.name] 9)).alloc (Ib #[I m.tag] 9)).heap[w.heap.size+2]?=AI (Ib #[I m.tag] 9 (0,0)):=by
  have h:=Ii ((w.alloc (Ib #[I m.node,I m.oI,I m.name,I m.tag,O J m.addr,O J m.port,Ic m.ny,O J m.version,Ic m.gone] 93)).alloc (Ib #[I m.node,I m.oI,I m.name] 9)) (Ib #[I m.tag] 9);simpa using h
 have HT:Hid (Calls AT 164 #[sh (AI ⟨w.heap.size+2,0,U⟩) 1 1] (((w.alloc (Ib #[I m.node,I m.oI,I m.name,I m.tag,O J m.addr,O J m.port,Ic m.ny,O J m.version,Ic m.gone] 93)).alloc (Ib #[I m.node,I m.oI,I m.name] 9)).alloc (Ib #[I m.tag] 9)) λe w'=>e=Ia (Ic (xI m.tag))/\w'=(((w.alloc (Ib #[I m.node,I m.oI,I m.name,I m.tag,O J m.addr,O J m.port,Ic m.ny,O J m.version,Ic m.gone] 93)).alloc (Ib #[I m.node,I m.oI,I m.name] 9)).alloc (Ib #[I m.tag] 9))):=VY m.tag _ _ hs Cv;clear Cv;have HD:Hid (m.e=if XH m=true then(if xI m.tag=true then(if within m.addr 0 4294967295=true then(if within m.port 0 65535=true then(if within m.version 1 1000000=true then 0 else 3) else 3) else 3) else 1) else 1):=m.aor;clear hm;rcases h1:XH m with _|_
 .go_enter func110,ntmps110
  go_wp2_with (go_at_call 50;refine HL.out.mono ?_;rintro e w' ⟨rfl,rfl⟩;rw[h1]);go_ret;exact⟨mN (by rw[HD.out];simp[h1]),hB.out⟩
 .rcases h2:xI m.tag with _|_
  .go_enter func110,ntmps110
   go_wp2_with (first|(go_at_call 50;refine HL.out.mono ?_;rintro e w' ⟨rfl,rfl⟩;rw[h1])|(go_at_call 164;refine HT.out.mono ?_;rintro e w' ⟨rfl,rfl⟩;rw[h2]));go_ret;exact⟨mN (by rw[HD.out];simp[h1,h2]),hB3.out⟩
  .rcases h3:within m.addr 0 4294967295 with _|_
   .go_enter func110,ntmps110
    go_wp2_with (first|(go_at_call 50;refine HL.out.mono ?_;rintro e w' ⟨rfl,rfl⟩;rw[h1])|(go_at_call 164;refine HT.out.mono ?_;rintro e w' ⟨rfl,rfl⟩;rw[h2])|(go_at_call 51;refine(qf _ _).mono ?_;rintro e w' ⟨rfl,rfl⟩;rw[h3]));go_ret;exact⟨mN (by rw[HD.out];simp[h1,h2,h3]),hB3.out⟩
   .rcases h4:within m.port 0 65535 with _|_
    .go_enter func110,ntmps110
     go_wp2_with (first|(go_at_call 50;refine HL.out.mono ?_;rintro e w' ⟨rfl,rfl⟩;rw[h1])|(go_at_call 164;refine HT.out.mono ?_;rintro e w' ⟨rfl,rfl⟩;rw[h2])|(go_at_call 51;refine(qf _ _).mono ?_;rintro e w' ⟨rfl,rfl⟩;rw[h3])|(go_at_call 89;refine(oe _ _ _ _).mono ?_;rintro e w' ⟨rfl,rfl⟩;rw[h4]));go_ret;exact⟨mN (by rw[HD.out];simp[h1,h2,h3,h4]),hB3.out⟩
    .rcases h5:within m.version 1 1000000 with _|_
     all_goals
      go_enter func110,ntmps110;go_wp2_with (first|(go_at_call 50;refine HL.out.mono ?_;rintro e w' ⟨rfl,rfl⟩;rw[h1])|(go_at_call 164;refine HT.out.mono ?_;rintro e w' ⟨rfl,rfl⟩;rw[h2])|(go_at_call 51;refine(qf _ _).mono ?_;rintro e w' ⟨rfl,rfl⟩;rw[h3])|(go_at_call 89;refine(oe _ _ _ _).mono ?_;rintro e w' ⟨rfl,rfl⟩;first|rw[h4]|rw[h5]));go_ret;exact⟨mN (by rw[HD.out];simp[h1,h2,h3,h4,h5]),hB3.out⟩
abbrev x_M:Nat:=40
abbrev acw:=func62
abbrev MS:=ntmps62
abbrev akA:=func197
abbrev acx:=ntmps197
abbrev acA(m:nj):Prop:=(m).ok
theorem wX:E5 62 Row nu acA dm 40:=acv
theorem vx:Cw 62 40:=Sd
theorem vy:Cx 62:=Se
theorem nU:E6 62 Sl nu:=Sf
theorem qY:E7 197 Sl nW:=Sg
end Sv
namespace Sv
open Go.RowKit
section
open Go.ChangeShapes Go.WideShapes Go.ChangeAt
variable {H:Type} {enc:TypeId × Value→H} {w:World} {base:Nat} {spare:Nat→Bool} {held:Bool}
end
end Sv
namespace Sv
open Go.RowKit
end Sv
namespace Sv
open Go.RowKit
def keep(name tag:ByteArray)(m:nj):Bool:=(m.name.toList==name.toList)&&((tag.toList==[])||(m.tag.toList==tag.toList))&&m.ny&&!m.gone
def nc(ms:List nj)(name tag:ByteArray):List nj:=ms.filter (keep name tag)
def VZ(name tag:ByteArray):Int:=if(mT name&&xI tag)=true then 0 else 1
theorem Kb{ms:List nj}{name tag:ByteArray}{k:Nat}(hk:k<ms.length)(h:keep name tag (ms.getD k dm)=true):nc (ms.take (k+1)) name tag=nc (ms.take k) name tag++[ms.getD k dm]:=by
 rw[RL.Ek dm hk] at h ⊢;rw[nc,nc,Iz hk,JJ,List.filter_cons_of_pos h];rfl
theorem M7{ms:List nj}{name tag:ByteArray}{k:Nat}(hk:k<ms.length)(h:keep name tag (ms.getD k dm)=false):nc (ms.take (k+1)) name tag=nc (ms.take k) name tag:=by
 rw[RL.Ek dm hk] at h;rw[nc,nc,Iz hk,JJ,List.filter_cons_of_neg (by rw[h];exact Bool.false_ne_true)];simp
theorem zA(ms:List nj)(name tag:ByteArray):(nc ms name tag).length<=ms.length:=List.length_filter_le _ _
theorem M8{ms:List nj}{name tag:ByteArray}(h:∀m∈ms,m.ok):∀m∈nc ms name tag,m.ok:=λm hm=>h m (List.mem_filter.1 hm).1
theorem M9(name tag:ByteArray)(m:nj) : (keep name tag m=false/\((m.name.toList==name.toList)=false\/((m.name.toList==name.toList)=true/\(tag.toList==[])=false/\(m.tag.toList==tag.toList)=false)
   \/ ((m.name.toList==name.toList)=true/\(tag.toList==[])=true/\m.ny=false)\/((m.name.toList==name.toList)=true/\(tag.toList==[])=false/\(m.tag.toList==tag.toList)=true/\m.ny=false)
   \/ ((m.name.toList==name.toList)=true/\(tag.toList==[])=true/\m.ny=true/\m.gone=true)\/((m.name.toList==name.toList)=true/\(tag.toList==[])=false/\(m.tag.toList==tag.toList)=true/\m.ny=true/\m.gone=true)))
 \/ (keep name tag m=true/\(((m.name.toList==name.toList)=true/\(tag.toList==[])=true/\m.ny=true/\m.gone=false)\/((m.name.toList==name.toList)=true/\(tag.toList==[])=false/\(m.tag.toList==tag.toList)=true/\m.ny=true/\m.gone=false))):=by
 unfold keep;generalize(m.name.toList==name.toList)=b1;generalize(tag.toList==[])=b2;generalize(m.tag.toList==tag.toList)=b3;generalize m.ny=b4;generalize m.gone=b5;cases b1<;>cases b2<;>cases b3<;>cases b4<;>cases b5<;>simp
theorem Fl(ms:List nj)(v:Value)(name tag:ByteArray)(w:World)(hv:Sl w v ms)(h0:nu ms=0)(hn:name.size<=Il)(ht:tag.size<=Il)(hl:VZ name tag=0) :
 Calls AT 259 #[v,I name,I tag] w λe w'=>∃v',e=Ia (.tuple #[v',O J 0])/\Own w.heap.size w' v' (nc ms name tag)/\Below w.heap.size w w':=by
 obtain⟨i0,qg,oS,so,sf⟩:=info_parts Tryz.RN;have he:(nu ms !=0)=false:=by simpa using h0
 have hlen:=(mU h0).1;have HV:Hid (Sl w v ms):=hv;have hll:mT name=true/\xI tag=true:=by
  unfold VZ at hl;split at hl
  .rename_i h;simpa using h
  .cases hl
 obtain⟨h1,h2⟩:=hll;obtain⟨pa,ca,rfl,_,ha⟩:=hv;have HA:Hid _:=ha;clear ha h0 hl;generalize Ap:ms.length=n at *;have HN:Hid (ms.length=n):=Ap;clear Ap;go_enter func259,ntmps259;go_wp2_with (first|(go_at_call 62;refine(nU ms _ _ HV.out).mono ?_;rintro e w1 ⟨rfl,mO⟩)|(go_at_call 78;refine(nL _ _ hn).mono ?_;rintro e w' ⟨rfl,rfl⟩;rw[h1])|(go_at_call 164;refine(VY tag _ _ ht (Xn _ _)).mono ?_;rintro e w3 ⟨rfl,rfl⟩;rw[h2]));have mY:Hid (Below w.heap.size w _):=mO.alloc mO.size (Ib #[I tag] 9);have sj:=mY.out.size;clear mO HV;go_loopw [9,28] (λkn i w'=>∃k:Nat,k<=n/\i=O J k/\Below w.heap.size w w'/\Hid (Own w.heap.size w' kn (nc (ms.take k) name tag))) (λ_ i _=>n-(intOf i).toNat)
 case atStart=>exact⟨0,Iw _,rfl,mY.out,nh _ _⟩
 case round=>
  obtain⟨k,hk,rfl,nE,HO⟩:=hrel;obtain⟨rM,Ai⟩:=pd nE;have od:=nE.size;have at6:(nc (ms.take k) name tag).length<=40:=by have h1:=zA (ms.take k) name tag;have h2:(ms.take k).length<=k:=Oh _ _;omega
  by_cases mS:k<n
  .obtain⟨b1,o1,tr,o8,wT⟩:∃b off,pa=AI ⟨b,off,U⟩/\b<w.heap.size/\Row w b off ms:=by
    rcases HA.out with h|h
    .have:=HN.out;rw[h] at this;simp at this;omega
    .exact h
   subst tr;obtain⟨c0,c1,c2,c3,c4,c5,c6,c7,c8⟩:=wT k (by rw[HN.out];exact mS);clear wT;have EU:k<ms.length:=by rw[HN.out];exact mS
   have HY:Hid (keep name tag (ms.getD k dm)=true->nc (ms.take (k+1)) name tag=nc (ms.take k) name tag++[ms.getD k dm]):=λh=>Kb EU h;have Kc:Hid (keep name tag (ms.getD k dm)=false->nc (ms.take (k+1)) name tag=nc (ms.take k) name tag):=λh=>M7 EU h;generalize ms.getD k dm=m at *;rcases M9 name tag m with⟨vO,hw⟩|⟨vO,hw⟩
   .have yB:Hid (nc (ms.take (k+1)) name tag=nc (ms.take k) name tag):=Kc.out vO
    clear HY Kc vO;rcases hw with h|⟨h,g1,g2⟩|⟨h,g1,g2⟩|⟨h,g1,g2,g3⟩|⟨h,g1,g2,g3⟩|⟨h,g1,g2,g3,g4⟩;all_goals
     go_wp2_with fail;go_roundw
     case rel=>exact⟨k+1,by omega,by go_num,nE.alloc od _,by rw[yB.out];exact HO.out.below ((If _ _).alloc (By _) _)⟩
     case measure=>simp[intOf];omega
   .have yB:Hid (nc (ms.take (k+1)) name tag=nc (ms.take k) name tag++[m]):=HY.out vO
    clear HY Kc vO;generalize nc (ms.take k) name tag=L at *;rcases hw with⟨h,g1,gp,gg⟩|⟨h,g1,g2,gp,gg⟩;all_goals
     go_wp2_with (at_builtin;refine IY _ rfl _ _ 24 rfl w.heap.size 93 i0 _ 9 104 Oz qg oS so sf rfl (by omega) _ L.length (fl L) rfl ?hown ⟨wr.heap.size+1,0,U⟩ 1 1 m.cs rfl rfl ?hnews (pX _) ?h63 ?hbytes ?hbase ?_)
     case hown=>exact HO.out.below (((If _ _).alloc (By _) _).alloc (by simp) _)
     case hnews=>(intro j u hj;rw[Addr.add_lit];exact(oY (by simp)).trans (by simpa[nj.cs,gp,gg] using hj))
     case h63=>(unfold Il;omega)
     case hbytes=>omega
     case hbase=>(simp;omega)
     all_goals
      intro v' w2 r1 r2 r3;have vh:Hid (Below w.heap.size w w2):=((nE.alloc od _).alloc (by simp;omega) _).grown r2 (by simp;omega) (λj hj=>(HO.out.lt j hj).1);have HOX:Hid (Own w.heap.size w2 v' (L++[m])):=qC r1;clear r1 r2 r3;go_wp2_with fail;go_roundw
      case rel=>exact⟨k+1,by omega,by go_num,vh.out,by rw[yB.out];exact HOX.out⟩
      case measure=>simp[intOf];omega
  .have tp:k=n:=by omega
   subst tp;have HFO:Hid (Own w.heap.size wr u9 (nc ms name tag)):=by
    have h:=HO.out;rw[IJ (by rw[HN.out];exact By _)] at h;exact h
   go_wp2_with fail;go_ret2;exact⟨u9,rfl,HFO.out,nE⟩
end Sv
namespace Sv
open Go.RowKit
end Sv
namespace Sv
open Go.RowKit
end Sv
namespace Sv
open Go.RowKit
theorem at7(m:nj):m.e=if mT m.node=true then(if mT m.oI=true then(if mT m.name=true then(if xI m.tag=true then(if within m.addr 0 4294967295=true then(if within m.port 0 65535=true then(if within m.version 1 1000000=true then 0 else 3) else 3) else 3) else 1) else 1) else 1) else 1:=by
 unfold nj.e;cases mT m.node<;>cases mT m.oI<;>cases mT m.name<;>cases xI m.tag<;>cases within m.addr 0 4294967295<;>cases within m.port 0 65535<;>cases within m.version 1 1000000<;>rfl
theorem SI(m:nj)(w:World)(hm:m.ok) :
 rI 38 #[Iu #[I m.node,I m.oI,I m.name,I m.tag,O J m.addr,O J m.port,Ic m.ny,O J m.version,Ic m.gone]] w (O J m.e):=by
 obtain⟨sj,AP,V0,Lh⟩:=hm;have hB:Hid (Below w.heap.size w (w.alloc (Ib #[I m.node,I m.oI,I m.name,I m.tag,O J m.addr,O J m.port,Ic m.ny,O J m.version,Ic m.gone] 93))):=(If _ _).alloc (By _) _;have HD:Hid (m.e=_):=at7 m;have hsA:Hid (∀s:ByteArray,(s=m.node\/s=m.oI\/s=m.name\/s=m.tag)->s.size<=Il):=by rintro s (rfl|rfl|rfl|rfl)<;>assumption
 clear sj AP V0 Lh;rcases h1:mT m.node with _|_
 .go_enter O4,OS
  go_wp2_with (go_at_call 11;refine(mV _ _ (hsA.out _ (by simp))).mono ?_;rintro e w' ⟨rfl,rfl⟩;first|rw[h1]);go_ret;exact⟨mN (by rw[HD.out];simp[h1]),hB.out⟩
 .rcases h2:mT m.oI with _|_
  .go_enter O4,OS
   go_wp2_with (go_at_call 11;refine(mV _ _ (hsA.out _ (by simp))).mono ?_;rintro e w' ⟨rfl,rfl⟩;first|rw[h1]|rw[h2]);go_ret;exact⟨mN (by rw[HD.out];simp[h1,h2]),hB.out⟩
  .rcases h3:mT m.name with _|_
   .go_enter O4,OS
    go_wp2_with (go_at_call 11;refine(mV _ _ (hsA.out _ (by simp))).mono ?_;rintro e w' ⟨rfl,rfl⟩;first|rw[h1]|rw[h2]|rw[h3]);go_ret;exact⟨mN (by rw[HD.out];simp[h1,h2,h3]),hB.out⟩
   .by_cases ht:m.tag=ByteArray.empty
    .have ht1:m.tag.toList=[]:=by rw[ht,Lib.toList_data];rfl
     have Rk:(m.tag.toList==[])=true:=by rw[ht1];rfl
     have SJ:xI m.tag=true:=by simp[xI,ht]
     clear ht;rcases h5:within m.addr 0 4294967295 with _|_
     .go_enter O4,OS
      go_wp2_with (first|(go_at_call 11;refine(mV _ _ (hsA.out _ (by simp))).mono ?_;rintro e w' ⟨rfl,rfl⟩;first|rw[h1]|rw[h2]|rw[h3])|(go_at_call 40;refine(ot _ _).mono ?_;rintro e w' ⟨rfl,rfl⟩;rw[h5]));go_ret;exact⟨mN (by rw[HD.out];simp[h1,h2,h3,SJ,h5]),hB.out⟩
     .rcases h6:within m.port 0 65535 with _|_
      .go_enter O4,OS
       go_wp2_with (first|(go_at_call 11;refine(mV _ _ (hsA.out _ (by simp))).mono ?_;rintro e w' ⟨rfl,rfl⟩;first|rw[h1]|rw[h2]|rw[h3])|(go_at_call 40;refine(ot _ _).mono ?_;rintro e w' ⟨rfl,rfl⟩;rw[h5])|(go_at_call 37;refine(nN _ _ _ _).mono ?_;rintro e w' ⟨rfl,rfl⟩;first|rw[h6]));go_ret;exact⟨mN (by rw[HD.out];simp[h1,h2,h3,SJ,h5,h6]),hB.out⟩
      .rcases h7:within m.version 1 1000000 with _|_
       .go_enter O4,OS
        go_wp2_with (first|(go_at_call 11;refine(mV _ _ (hsA.out _ (by simp))).mono ?_;rintro e w' ⟨rfl,rfl⟩;first|rw[h1]|rw[h2]|rw[h3])|(go_at_call 40;refine(ot _ _).mono ?_;rintro e w' ⟨rfl,rfl⟩;rw[h5])|(go_at_call 37;refine(nN _ _ _ _).mono ?_;rintro e w' ⟨rfl,rfl⟩;first|rw[h6]|rw[h7]));go_ret;exact⟨mN (by rw[HD.out];simp[h1,h2,h3,SJ,h5,h6,h7]),hB.out⟩
       .go_enter O4,OS
        go_wp2_with (first|(go_at_call 11;refine(mV _ _ (hsA.out _ (by simp))).mono ?_;rintro e w' ⟨rfl,rfl⟩;first|rw[h1]|rw[h2]|rw[h3])|(go_at_call 40;refine(ot _ _).mono ?_;rintro e w' ⟨rfl,rfl⟩;rw[h5])|(go_at_call 37;refine(nN _ _ _ _).mono ?_;rintro e w' ⟨rfl,rfl⟩;first|rw[h6]|rw[h7]));go_ret;exact⟨mN (by rw[HD.out];simp[h1,h2,h3,SJ,h5,h6,h7]),hB.out⟩
    .have ht1:¬ m.tag.toList=[]:=λe=>(o0 ht).2 (by rw[e,Lib.toList_data];rfl)
     have Rk:(m.tag.toList==[])=false:=by simpa using ht1
     have HTT:Hid (xI m.tag=mT m.tag):=(show xI m.tag=mT m.tag by simp[xI,ht]);clear ht;rcases h4:mT m.tag with _|_
     .have SJ:xI m.tag=false:=HTT.out.trans h4
      go_enter O4,OS;go_wp2_with (go_at_call 11;refine(mV _ _ (hsA.out _ (by simp))).mono ?_;rintro e w' ⟨rfl,rfl⟩;first|rw[h1]|rw[h2]|rw[h3]|rw[h4]);go_ret;exact⟨mN (by rw[HD.out];simp[h1,h2,h3,SJ]),hB.out⟩
     .have SJ:xI m.tag=true:=HTT.out.trans h4
      rcases h5:within m.addr 0 4294967295 with _|_
      .go_enter O4,OS
       go_wp2_with (first|(go_at_call 11;refine(mV _ _ (hsA.out _ (by simp))).mono ?_;rintro e w' ⟨rfl,rfl⟩;first|rw[h1]|rw[h2]|rw[h3]|rw[h4])|(go_at_call 40;refine(ot _ _).mono ?_;rintro e w' ⟨rfl,rfl⟩;rw[h5]));go_ret;exact⟨mN (by rw[HD.out];simp[h1,h2,h3,SJ,h5]),hB.out⟩
      .rcases h6:within m.port 0 65535 with _|_
       .go_enter O4,OS
        go_wp2_with (first|(go_at_call 11;refine(mV _ _ (hsA.out _ (by simp))).mono ?_;rintro e w' ⟨rfl,rfl⟩;first|rw[h1]|rw[h2]|rw[h3]|rw[h4])|(go_at_call 40;refine(ot _ _).mono ?_;rintro e w' ⟨rfl,rfl⟩;rw[h5])|(go_at_call 37;refine(nN _ _ _ _).mono ?_;rintro e w' ⟨rfl,rfl⟩;first|rw[h6]));go_ret;exact⟨mN (by rw[HD.out];simp[h1,h2,h3,SJ,h5,h6]),hB.out⟩
       .rcases h7:within m.version 1 1000000 with _|_
        .go_enter O4,OS
         go_wp2_with (first|(go_at_call 11;refine(mV _ _ (hsA.out _ (by simp))).mono ?_;rintro e w' ⟨rfl,rfl⟩;first|rw[h1]|rw[h2]|rw[h3]|rw[h4])|(go_at_call 40;refine(ot _ _).mono ?_;rintro e w' ⟨rfl,rfl⟩;rw[h5])|(go_at_call 37;refine(nN _ _ _ _).mono ?_;rintro e w' ⟨rfl,rfl⟩;first|rw[h6]|rw[h7]));go_ret;exact⟨mN (by rw[HD.out];simp[h1,h2,h3,SJ,h5,h6,h7]),hB.out⟩
        .go_enter O4,OS
         go_wp2_with (first|(go_at_call 11;refine(mV _ _ (hsA.out _ (by simp))).mono ?_;rintro e w' ⟨rfl,rfl⟩;first|rw[h1]|rw[h2]|rw[h3]|rw[h4])|(go_at_call 40;refine(ot _ _).mono ?_;rintro e w' ⟨rfl,rfl⟩;rw[h5])|(go_at_call 37;refine(nN _ _ _ _).mono ?_;rintro e w' ⟨rfl,rfl⟩;first|rw[h6]|rw[h7]));go_ret;exact⟨mN (by rw[HD.out];simp[h1,h2,h3,SJ,h5,h6,h7]),hB.out⟩
end Sv
namespace Sv
open Go.RowKit
theorem akI(a b:nj):decide (ord a b<0)=(less a.node b.node||(a.node.toList==b.node.toList&&less a.oI b.oI)):=by
 have hd:ord a b=if oh a.node b.node=0 then oh a.oI b.oI else oh a.node b.node:=rfl;rw[hd];by_cases he:a.node=b.node
 .have h0:=(oQ _ _).2 he
  rw[if_pos h0,he,vX,JH,decide_eq_true_eq,pB];simp
 .have h0:¬ oh a.node b.node=0:=λh=>he ((oQ _ _).1 h)
  rw[if_neg h0,(o0 he).1,Bool.false_and,Bool.or_false,JH,decide_eq_true_eq,pB]
theorem XI(a b:nj)(w:World) :
 rI 39 #[Iu #[I a.node,I a.oI,I a.name,I a.tag,O J a.addr,O J a.port,Ic a.ny,O J a.version,Ic a.gone],Iu #[I b.node,I b.oI,I b.name,I b.tag,O J b.addr,O J b.port,Ic b.ny,O J b.version,Ic b.gone]] w (Ic (decide (ord a b<0))):=by
 have hB:Hid (Below w.heap.size w ((w.alloc (Ib #[I a.node,I a.oI,I a.name,I a.tag,O J a.addr,O J a.port,Ic a.ny,O J a.version,Ic a.gone] 93)).alloc (Ib #[I b.node,I b.oI,I b.name,I b.tag,O J b.addr,O J b.port,Ic b.ny,O J b.version,Ic b.gone] 93))):=((If _ _).alloc (By _) _).alloc (by simp) _;have HD:Hid (decide (ord a b<0)=(less a.node b.node||(a.node.toList==b.node.toList&&less a.oI b.oI))):=akI a b;generalize decide (ord a b<0)=res at *;rcases h1:Op.bytesLess a.node.toList b.node.toList with _|_
 .rcases h2:(a.node.toList==b.node.toList) with _|_
  .have h3:¬ a.node.toList=b.node.toList:=by simpa using h2
   have HR:Hid (res=false):=(show res=false by rw[HD.out,h2];simp[less,h1]);go_enter func39,ntmps39;go_wp2;go_ret;exact⟨mW HR.out.symm,hB.out⟩
  .have h3:a.node.toList=b.node.toList:=by simpa using h2
   have HR:Hid (res=Op.bytesLess a.oI.toList b.oI.toList):=(show res=_ by rw[HD.out,h2];simp[less,h1]);rw[h3] at h1;go_enter func39,ntmps39;go_wp2;go_ret;exact⟨mW HR.out.symm,hB.out⟩
 .have HR:Hid (res=true):=(show res=true by rw[HD.out];simp[less,h1])
  go_enter func39,ntmps39;go_wp2;go_ret;exact⟨mW HR.out.symm,hB.out⟩
theorem tF(ms:List nj)(b off cap:Nat)(w:World)(hr:Row w b off ms)(hb:b<w.heap.size)(hn:ms.length<=40)(hs:∀j,(ms.getD j dm).ok) :
 rI 14 #[sh (AI ⟨b,off,U⟩) ms.length cap] w (O J (nu ms)):=by
 have HR:Hid (Row w b off ms):=hr;clear hr;have HE:Hid (∀k,k<ms.length->(∀j,j<k->(ms.getD j dm).e=0)->(ms.getD k dm).e≠0->nu ms=(ms.getD k dm).e):=λk h1 h2 h3=>Bs ms k hn h1 h2 h3;have H4:Hid ((∀j,j<ms.length->(ms.getD j dm).e=0)->∀k,k+1<ms.length->0<=ord (ms.getD k dm) (ms.getD (k+1) dm)->nu ms=4):=λh1 k h2 h3=>EM ms k hn h1 h2 (by omega);have H0:Hid ((∀j,j<ms.length->(ms.getD j dm).e=0)->(∀j,j+1<ms.length->ord (ms.getD j dm) (ms.getD (j+1) dm)<0)->nu ms=0):=λh1 h2=>EN ms hn h1 h2;generalize hN:ms.length=n at *;have HN:Hid (ms.length=n):=hN;clear hN;have HS:Hid (∀j,(ms.getD j dm).ok):=hs;clear hs;generalize hC:nu ms=res at *;clear hC;go_enter func14,ntmps14;go_wp2_with fail;go_loopw [3] (λi w'=>∃k:Nat,k<=n/\i=O J k/\Below w.heap.size w w'/\Hid (∀j,j<k->(ms.getD j dm).e=0)) (λi _=>n-(intOf i).toNat)
 case atStart=>exact⟨0,Iw _,rfl,If _ _,λj h=>absurd h (IV _)⟩
 case round=>
  obtain⟨k,hk,rfl,nE,hz⟩:=hrel;obtain⟨rM,Ai⟩:=pd nE;have od:=nE.size;by_cases mS:k<n
  .obtain⟨c0,c1,c2,c3,c4,c5,c6,c7,c8⟩:=HR.out k (by rw[HN.out];exact mS)
   have HSK:Hid ((ms.getD k dm).ok):=HS.out k;have HK:Hid ((ms.getD k dm).e≠0->res=(ms.getD k dm).e):=λh=>HE.out k mS hz.out h;have HZ:Hid ((ms.getD k dm).e=0->∀j,j<k+1->(ms.getD j dm).e=0):=λh j hj=>by
    rcases IL.1 hj with h2|rfl
    .exact hz.out j h2
    .exact h
   generalize ms.getD k dm=m at *;have HO:Hid (∀w,rI 38 #[Iu #[I m.node,I m.oI,I m.name,I m.tag,O J m.addr,O J m.port,Ic m.ny,O J m.version,Ic m.gone]] w (O J m.e)):=λw=>SI m w HSK.out;generalize m.e=me at *;rcases he:decide (me=0) with _|_
   .have Am:(me !=0)=true:=by simpa using he
    clear he;go_wp2_with (go_at_call 38;refine(HO.out _).mono ?_;rintro e w' ⟨rfl,mZ⟩);go_ret;have nK:me≠0:=by simpa using Am
    have yg:res=me:=HK.out nK;exact⟨mN yg.symm,nE.trans (mZ.mono od)⟩
   .have Am:(me !=0)=false:=by simpa using he
    clear he;go_wp2_with (go_at_call 38;refine(HO.out _).mono ?_;rintro e w' ⟨rfl,mZ⟩);go_roundw
    case rel=>
     have he0:me=0:=by simpa using Am
     exact⟨k+1,by omega,by go_num,nE.trans (mZ.mono od),HZ.out he0⟩
    case measure=>simp[intOf];omega
  .have qe:Hid (∀j,j<n->(ms.getD j dm).e=0):=λj hj=>hz.out j (by omega)
   clear hz;go_wp2_with fail;go_loopw [5] (λi w'=>∃k:Nat,(k+1<=n\/k=0)/\i=O J (k+1)/\Below w.heap.size w w'/\Hid (∀j,j<k->ord (ms.getD j dm) (ms.getD (j+1) dm)<0)) (λi _=>n-(intOf i).toNat)
   case atStart=>exact⟨0,.inr rfl,rfl,nE,λj h=>absurd h (IV _)⟩
   case round=>
    clear rM Ai od nE;obtain⟨q,hq,rfl,nE,hz⟩:=hrel;obtain⟨rM,Ai⟩:=pd nE;have od:=nE.size;by_cases mS:q+1<n
    .obtain⟨c0,c1,c2,c3,c4,c5,c6,c7,c8⟩:=HR.out q (by rw[HN.out];omega)
     obtain⟨d0,d1,d2,d3,d4,d5,d6,d7,d8⟩:=HR.out (q+1) (by rw[HN.out];exact mS);have HK:Hid (0<=ord (ms.getD q dm) (ms.getD (q+1) dm)->res=4):=λh=>H4.out qe.out q mS h;have HZ:Hid (ord (ms.getD q dm) (ms.getD (q+1) dm)<0->∀j,j<q+1->ord (ms.getD j dm) (ms.getD (j+1) dm)<0):=λh j hj=>by
      rcases IL.1 hj with h2|rfl
      .exact hz.out j h2
      .exact h
     generalize ms.getD q dm=m1 at *;generalize ms.getD (q+1) dm=m2 at *;have hN:∀d os,ni 39 #[Iu #[I m1.node,I m1.oI,I m1.name,I m1.tag,O J m1.addr,O J m1.port,Ic m1.ny,O J m1.version,Ic m1.gone],Iu #[I m2.node,I m2.oI,I m2.name,I m2.tag,O J m2.addr,O J m2.port,Ic m2.ny,O J m2.version,Ic m2.gone]] (Is (IG wr d) os) λe DQ=>e=Ia (Ic (decide (ord m1 m2<0)))/\∃p:Regrown,DQ=Is (IG wr p.d) p.os:=λd os=>Calls.regrown_of (XI m1 m2 _);have F0:∀d os,(Is (IG wr d) os).cell? ⟨b,off+q*9,U⟩=AI (I m1.node):=Im ((rM _ _ hb).trans c0);have F1:∀d os,(Is (IG wr d) os).cell? ⟨b,off+q*9+1,U⟩=AI (I m1.oI):=Im ((rM _ _ hb).trans c1);have F2:∀d os,(Is (IG wr d) os).cell? ⟨b,off+q*9+2,U⟩=AI (I m1.name):=Im ((rM _ _ hb).trans c2);have F3:∀d os,(Is (IG wr d) os).cell? ⟨b,off+q*9+3,U⟩=AI (I m1.tag):=Im ((rM _ _ hb).trans c3);have F4:∀d os,(Is (IG wr d) os).cell? ⟨b,off+q*9+4,U⟩=AI (O J m1.addr):=Im ((rM _ _ hb).trans c4);have F5:∀d os,(Is (IG wr d) os).cell? ⟨b,off+q*9+5,U⟩=AI (O J m1.port):=Im ((rM _ _ hb).trans c5);have F6:∀d os,(Is (IG wr d) os).cell? ⟨b,off+q*9+6,U⟩=AI (Ic m1.ny):=Im ((rM _ _ hb).trans c6);have F7:∀d os,(Is (IG wr d) os).cell? ⟨b,off+q*9+7,U⟩=AI (O J m1.version):=Im ((rM _ _ hb).trans c7);have F8:∀d os,(Is (IG wr d) os).cell? ⟨b,off+q*9+8,U⟩=AI (Ic m1.gone):=Im ((rM _ _ hb).trans c8);have G0:∀d os,(Is (IG wr d) os).cell? ⟨b,off+(q+1)*9,U⟩=AI (I m2.node):=Im ((rM _ _ hb).trans d0);have G1:∀d os,(Is (IG wr d) os).cell? ⟨b,off+(q+1)*9+1,U⟩=AI (I m2.oI):=Im ((rM _ _ hb).trans d1);have G2:∀d os,(Is (IG wr d) os).cell? ⟨b,off+(q+1)*9+2,U⟩=AI (I m2.name):=Im ((rM _ _ hb).trans d2);have G3:∀d os,(Is (IG wr d) os).cell? ⟨b,off+(q+1)*9+3,U⟩=AI (I m2.tag):=Im ((rM _ _ hb).trans d3);have G4:∀d os,(Is (IG wr d) os).cell? ⟨b,off+(q+1)*9+4,U⟩=AI (O J m2.addr):=Im ((rM _ _ hb).trans d4);have G5:∀d os,(Is (IG wr d) os).cell? ⟨b,off+(q+1)*9+5,U⟩=AI (O J m2.port):=Im ((rM _ _ hb).trans d5);have G6:∀d os,(Is (IG wr d) os).cell? ⟨b,off+(q+1)*9+6,U⟩=AI (Ic m2.ny):=Im ((rM _ _ hb).trans d6);have G7:∀d os,(Is (IG wr d) os).cell? ⟨b,off+(q+1)*9+7,U⟩=AI (O J m2.version):=Im ((rM _ _ hb).trans d7);have G8:∀d os,(Is (IG wr d) os).cell? ⟨b,off+(q+1)*9+8,U⟩=AI (Ic m2.gone):=Im ((rM _ _ hb).trans d8);clear c0 c1 c2 c3 c4 c5 c6 c7 c8 d0 d1 d2 d3 d4 d5 d6 d7 d8 rM Ai;have hwq:IntKind.i64.wrap (q:Int)=(q:Int):=by rw[IntKind.wrap_i64];omega
     have hqn:q<n:=by omega
     have yf:(q:Int)+1<(n:Int):=by omega
     have hq0:(0:Int)<=(q:Int)+1:=by omega
     have htn:((q:Int)+1).toNat=q+1:=by omega
     rcases hl:decide (ord m1 m2<0) with _|_
     .have h4:Hid (res=4):=HK.out (by simpa using hl)
      rw[hl] at hN;clear hl;go_wp2_with fail;refine IX (by kernel_rfl) (by kernel_rfl) ?_;repeat(quiet_step (exact hN _ _))
      refine oK λdq yx tB=>?_;clear hN F0 F1 F2 F3 F4 F5 F6 F7 F8 G0 G1 G2 G3 G4 G5 G6 G7 G8;go_wp2_with fail;go_ret;exact⟨mN h4.out.symm,nE.trans (tB.out.mono od)⟩
     .have HL:Hid (ord m1 m2<0):=(show ord m1 m2<0 by simpa using hl)
      rw[hl] at hN;clear hl;go_wp2_with fail;refine IX (by kernel_rfl) (by kernel_rfl) ?_;repeat(quiet_step (exact hN _ _))
      refine oK λdq yx tB=>?_;clear hN F0 F1 F2 F3 F4 F5 F6 F7 F8 G0 G1 G2 G3 G4 G5 G6 G7 G8;go_wp2_with fail;go_roundw
      case rel=>exact⟨q+1,.inl (by omega),by go_num,nE.trans (tB.out.mono od),HZ.out HL.out⟩
      case measure=>simp[intOf];omega
    .have h0:Hid (res=0):=H0.out qe.out λj hj=>hz.out j (by omega)
     go_wp2_with fail;go_ret;exact⟨mN h0.out.symm,nE⟩
theorem sB(a:Option Addr)(n cap:Nat)(w:World)(hn:40<n) :
 ni 14 #[sh a n cap] w λe w'=>e=Ia (O J 2)/\w'=w:=by
 go_enter func14,ntmps14;go_wp2_with fail;go_ret;exact⟨rfl,rfl⟩
theorem sC(a:Option Addr)(cap:Nat)(w:World) :
 ni 14 #[sh a 0 cap] w λe w'=>e=Ia (O J 0)/\w'=w:=by
 go_enter func14,ntmps14;go_wp2_with fail;go_loop [3] (λi=>i=O J 0) (λ_=>0)
 case atStart=>rfl
 case round=>
  subst hrel;go_wp2_with fail;go_loop [5] (λi=>i=O J 1) (λ_=>0)
  case atStart=>rfl
  case round=>
   subst hrel;go_wp2_with fail;go_ret;exact⟨rfl,rfl⟩
theorem rY(ms:List nj)(v:Value)(w:World)(h:Sl w v ms) :
 rI 14 #[v] w (O J (nu ms)):=by
 obtain⟨a,cap,rfl,hs,h⟩:=h;by_cases hn:40<ms.length
 .refine(sB a ms.length cap w hn).mono ?_
  rintro e w' ⟨rfl,rfl⟩;exact⟨mN (by rw[nu,if_pos hn]),If _ _⟩
 .rcases h with rfl|⟨b,off,rfl,hb,hr⟩
  .refine(sC a cap w).mono ?_
   rintro e w' ⟨rfl,rfl⟩;exact⟨rfl,If _ _⟩
  .exact tF ms b off cap w hr hb (by omega) hs
end Sv
namespace Sv
open Go.RowKit
end Sv
namespace Sv
open Go.RowKit
theorem ac3(a b:List UInt8):(a==b)=(b==a):=by rw[JH,beq_iff_eq,beq_iff_eq];exact⟨Eq.symm,Eq.symm⟩
theorem Dt(ms:List nj)(v:Value)(name tag:ByteArray)(w:World)(hv:Sl w v ms)(hlen:ms.length<=40) :
 Calls AT 86 #[v,I name,I tag] w λe w'=>∃v',e=Ia v'/\Own w.heap.size w' v' (nc ms name tag)/\Below w.heap.size w w':=by
 obtain⟨i0,qg,oS,so,sf⟩:=info_parts Tryz.RN;obtain⟨pa,ca,rfl,_,ha⟩:=hv;have HA:Hid (ms=[]\/∃b off,pa=AI ⟨b,off,U⟩/\b<w.heap.size/\Row w b off ms):=ha;clear ha;generalize Ap:ms.length=n at *;have HN:Hid (ms.length=n):=Ap;clear Ap;go_enter func86,ntmps86;go_wp2_with fail;go_loopw [7,8] (λkn i w'=>∃k:Nat,k<=n/\i=O J k/\Below w.heap.size w w'/\Hid (Own w.heap.size w' kn (nc (ms.take k) name tag))) (λ_ i _=>n-(intOf i).toNat)
 case atStart=>exact⟨0,Iw _,rfl,If _ _,nh _ _⟩
 case round=>
  obtain⟨k,hk,rfl,nE,HO⟩:=hrel;obtain⟨rM,Ai⟩:=pd nE;have od:=nE.size;have at6:(nc (ms.take k) name tag).length<=40:=by have h1:=zA (ms.take k) name tag;have h2:(ms.take k).length<=k:=Oh _ _;omega
  by_cases mS:k<n
  .obtain⟨b1,o1,tr,o8,wT⟩:∃b off,pa=AI ⟨b,off,U⟩/\b<w.heap.size/\Row w b off ms:=by
    rcases HA.out with h|h
    .have:=HN.out;rw[h] at this;simp at this;omega
    .exact h
   subst tr;obtain⟨c0,c1,c2,c3,c4,c5,c6,c7,c8⟩:=wT k (by rw[HN.out];exact mS);clear wT;have EU:k<ms.length:=by rw[HN.out];exact mS
   have HY:Hid (keep name tag (ms.getD k dm)=true->nc (ms.take (k+1)) name tag=nc (ms.take k) name tag++[ms.getD k dm]):=λh=>Kb EU h;have Kc:Hid (keep name tag (ms.getD k dm)=false->nc (ms.take (k+1)) name tag=nc (ms.take k) name tag):=λh=>M7 EU h;generalize ms.getD k dm=m at *;have uU:=ac3 m.tag.toList tag.toList;rcases M9 name tag m with⟨vO,hw⟩|⟨vO,hw⟩
   .have yB:Hid (nc (ms.take (k+1)) name tag=nc (ms.take k) name tag):=Kc.out vO
    clear HY Kc vO;rw[uU] at hw;clear uU;rcases hw with h|⟨h,g1,g2⟩|⟨h,g1,g2⟩|⟨h,g1,g2,g3⟩|⟨h,g1,g2,g3⟩|⟨h,g1,g2,g3,g4⟩;all_goals
     go_wp2_with fail;go_roundw
     case rel=>exact⟨k+1,by omega,by go_num,nE,by rw[yB.out];exact HO.out⟩
     case measure=>simp[intOf];omega
   .have yB:Hid (nc (ms.take (k+1)) name tag=nc (ms.take k) name tag++[m]):=HY.out vO
    clear HY Kc vO;rw[uU] at hw;clear uU;generalize nc (ms.take k) name tag=L at *;rcases hw with⟨h,g1,gp,gg⟩|⟨h,g1,g2,gp,gg⟩;all_goals
     go_wp2_with (at_builtin;refine IY _ rfl _ _ 24 rfl w.heap.size 93 i0 _ 9 104 Oz qg oS so sf rfl (by omega) _ L.length (fl L) rfl ?hown ⟨wr.heap.size,0,U⟩ 1 1 m.cs rfl rfl ?hnews (pX _) ?h63 ?hbytes ?hbase ?_)
     case hown=>exact HO.out.below ((If _ _).alloc (By _) _)
     case hnews=>(intro j u hj;rw[Addr.add_lit];exact(oY rfl).trans (by simpa[nj.cs,gp,gg] using hj))
     case h63=>(unfold Il;omega)
     case hbytes=>omega
     case hbase=>(simp;omega)
     all_goals
      intro v' w2 r1 r2 r3;have vh:Hid (Below w.heap.size w w2):=(nE.alloc od _).grown r2 (by simp;omega) (λj hj=>(HO.out.lt j hj).1);have HOX:Hid (Own w.heap.size w2 v' (L++[m])):=qC r1;clear r1 r2 r3;go_wp2_with fail;go_roundw
      case rel=>exact⟨k+1,by omega,by go_num,vh.out,by rw[yB.out];exact HOX.out⟩
      case measure=>simp[intOf];omega
  .have tp:k=n:=by omega
   subst tp;have HFO:Hid (Own w.heap.size wr u7 (nc ms name tag)):=by
    have h:=HO.out;rw[IJ (by rw[HN.out];exact By _)] at h;exact h
   go_wp2_with fail;go_ret;exact⟨u7,rfl,HFO.out,nE⟩
end Sv
end Go.Proofs.YtipbebleapjcjaaGreatDoor
