import Derived.Shelf.SlSortCmp.SmallK
import Derived.Test.YtbfghimjdlpicaaGreatDoorna30
set_option maxHeartbeats 25600000
set_option maxRecDepth 100000
open Go.Value renaming string→Y,slice→J,tuple→Ip,int→U,bool→Ia,pointer→If,agg→Ik,func→IQ
open Option renaming some→AI,none→be
open Array renaming getElem?_eq_some_iff→BY,getElem?_modify→O1
open List renaming map_append→O9,getD→Ir,getElem?_eq_getElem→Ic,take_succ_eq_append_getElem→IB,filter_append→Qy,length_map→JJ,getElem?_take_of_lt→IP,getElem?_eq_none→I3,length_take→IE,eq_nil_of_length_eq_zero→Je,length_nil→IX,mem_of_mem_take→Jf,getElem_mem→IK,pairwise_cons→JB,mem_cons→IN,mem_cons_self→Jg
open Nat renaming le_trans→Is,zero_le→IF,le_refl→Ie,zero_add→ID,reduceAdd→Jn
open Go.Ending renaming returned→AT
open Go.IntKind renaming i64→O
open Go.Proofs.Tryz renaming prog→AS
open Go renaming wpList_append_own→IZ,heap_alloc_new→Ij,maxLen→Io,TypeId→Ja,wp_loop_rounds→Od,rounds_succ→JZ,bodyPost_ret→IL,ownsRow_setCell_other→Iv
open Go.RowKit.Below renaming refl→Ib,heap_setCell→I0
open Go.Obj renaming cells→By
open Go.Proofs renaming sortWorldK→QI
open Go.Sort renaming ahead→J8
open Go.Joins renaming block_setCell→IC
open Go.RowKit renaming ownsRow_setCell_below→Il
namespace Go.Proofs.YtbfghimjdlpicaaGreatDoor
open Go.RowKit
theorem Tryz.acr:(Tryz.prog.info? 9).map (λi=>(i.zero,i.size,i.bytes))=AI (AI (Y ⟨#[]⟩),1,16):=by kernel_rfl
abbrev tZ(base:Nat)(w:World)(v:Value)(l:List ByteArray):Prop:=w.ownsRow base 9 1 v l.length (l.map Y)
theorem NF(base:Nat)(w:World):tZ base w (J be 0 0) []:=World.ownsRow_nil w base 9 1
theorem tZ.below{base:Nat}{w w':World}{v:Value}{l:List ByteArray}(h:tZ base w v l)(hb:Below w.heap.size w w'):tZ base w' v l:=by
 rcases h.2 with⟨rfl,h0⟩|⟨g,c,cur,rfl,eX,hg,gK,et,cE,bo⟩
 .exact⟨h.1,.inl ⟨rfl,h0⟩⟩
 .have aX:=(BY.1 hg).1
  exact⟨h.1,.inr ⟨g,c,cur,rfl,eX,(hb.block g aX).trans hg,gK,et,cE,bo⟩⟩
theorem tZ.lt{base:Nat}{w:World}{v:Value}{l:List ByteArray}(h:tZ base w v l)(k:Nat)(hk:v.ownBlock=AI k):base<=k/\k<w.heap.size:=World.ownsRow.lt h k hk
theorem yr{base:Nat}{w:World}{v:Value}{l:List ByteArray}{s:ByteArray}(h:w.ownsRow base 9 1 v (l.length+1) (l.map Y++[Y s])):tZ base w v (l++[s]):=by
 show w.ownsRow base 9 1 v (l++[s]).length ((l++[s]).map Y);rw[List.length_append,O9];exact h
def isLive(m:Mem):Bool:=m.state==1||m.state==2
def fh(ms:List Mem):List ByteArray:=(ms.filter isLive).map Mem.name
theorem H8(ms:List Mem)(k:Nat)(hk:k<ms.length)(h:isLive (ms.getD k dm)=true):fh (ms.take (k+1))=fh (ms.take k)++[(ms.getD k dm).name]:=by
 have e:ms.getD k dm=ms[k]:=by simp[Ir,Ic hk]
 rw[e] at h ⊢;unfold fh;rw[IB hk,Qy,O9];simp[h]
theorem NG(ms:List Mem)(k:Nat)(hk:k<ms.length)(h:isLive (ms.getD k dm)=false):fh (ms.take (k+1))=fh (ms.take k):=by
 have e:ms.getD k dm=ms[k]:=by simp[Ir,Ic hk]
 rw[e] at h;unfold fh;rw[IB hk,Qy,O9];simp[h]
theorem Ka(ms:List Mem)(k:Nat):(fh (ms.take k)).length<=k:=by
 unfold fh;rw[JJ];exact Is (List.length_filter_le _ _) (List.length_take_le _ _)
theorem Kb(ms:List Mem)(v:Value)(w:World)(hv:Sl w v ms)(h0:bp ms=0) :
 Calls AS 65 #[v] w λe w'=>∃v',e=AT (Ip #[v',U O 0])/\Hid (tZ w.heap.size w' v' (fh ms))/\Below w.heap.size w w':=by
 obtain⟨i0,fH,dt,gJ,gB⟩:=info_parts Tryz.acr;have he:(bp ms !=0)=false:=by simpa using h0
 have hz:=aj h0;have hlen:=hz.1;have HV:Hid (Sl w v ms):=hv;obtain⟨pa,ca,rfl,_,ha⟩:=hv;have HA:Hid _:=ha;clear ha h0 hz;generalize tu:ms.length=n at *;have HN:Hid (ms.length=n):=tu;clear tu;go_enter Tryz.func65,Tryz.ntmps65;go_wp2_with fail;refine(bD ms _ _ HV.out).mono ?_;rintro e w1 ⟨rfl,aC⟩;go_wp2_with fail;go_loopw [5,15] (λkn i w'=>∃k:Nat,k<=n/\i=U O k/\Below w.heap.size w w'/\Hid (tZ w.heap.size w' kn (fh (ms.take k)))) (λ_ i _=>n-(intOf i).toNat)
 case atStart=>exact⟨0,IF _,rfl,aC,NF _ _⟩
 case round=>
  clear aC;obtain⟨k,hk,rfl,aO,HO⟩:=hrel;obtain⟨cK,kj⟩:=cd aO;have cB:=aO.size;by_cases aX:k<n
  .obtain⟨b1,o1,ru,kb,ku⟩:∃b off,pa=AI ⟨b,off,be⟩/\b<w.heap.size/\Row w b off ms:=by
    rcases HA.out with h|h
    .have:=HN.out;rw[h] at this;simp at this;omega
    .exact h
   subst ru;obtain⟨c0,c1,c2,c3,c4⟩:=ku k (by rw[HN.out];exact aX);clear ku;have HY:Hid (isLive (ms.getD k dm)=true->fh (ms.take (k+1))=fh (ms.take k)++[(ms.getD k dm).name]):=λh=>H8 ms k (by rw[HN.out];exact aX) h;have HX:Hid (isLive (ms.getD k dm)=false->fh (ms.take (k+1))=fh (ms.take k)):=λh=>NG ms k (by rw[HN.out];exact aX) h;have hll:=Ka ms k;generalize ms.getD k dm=mk at *;obtain⟨nk,sk,lk,ak,vk⟩:=mk;simp only at c0 c1 c2 c3 c4;have ib:sk=1\/sk=2\/(sk≠1/\sk≠2):=by omega
   rcases ib with h|h|⟨h,h'⟩
   .subst h
    have HY2:Hid (fh (ms.take (k+1))=fh (ms.take k)++[nk]):=HY.out rfl;clear HY HX;generalize fh (ms.take k)=L at *;go_wp2_with (at_builtin;refine IZ _ rfl _ _ 69 rfl w.heap.size 9 i0 _ 1 16 Tryz.underlying69 fH dt gJ gB rfl (by omega) _ L.length (L.map Y) rfl ?hown ⟨wr.heap.size+1,0,be⟩ 1 1 [Y nk] rfl rfl ?hnews (by intro u hu;simp at hu;subst hu;rfl) ?h63 ?hbytes ?hbase ?_)
    case hown=>exact HO.out.below (((Ib _ _).alloc (Ie _) _).alloc (by simp) _)
    case hnews=>(intro j u hj;rw[Addr.add_lit];have hh:=ae (Ij (wr.alloc (By #[Y nk,U O 1,U O lk,U O ak,Ia vk] 52)) (By #[Y nk] 9)) (0+j);rw[show(wr.alloc (By #[Y nk,U O 1,U O lk,U O ak,Ia vk] 52)).heap.size=wr.heap.size+1 by simp] at hh;exact hh.trans (by simpa using hj))
    case h63=>(unfold Io;omega)
    case hbytes=>omega
    case hbase=>first|omega|(simp;omega)
    intro v' w2 r1 r2 r3;have ja:Hid (tZ w.heap.size w2 v' (L++[nk])):=yr r1;have bA:Hid (Below w.heap.size w w2):=((aO.alloc cB _).alloc (by simp;omega) _).grown r2 (by simp;omega) (λj hj=>(HO.out.lt j hj).1);go_wp2_with fail;exact⟨⟨k+1,by omega,by go_num,bA.out,by rw[HY2.out];exact ja⟩,by simp[intOf];omega⟩
   .subst h
    have HY2:Hid (fh (ms.take (k+1))=fh (ms.take k)++[nk]):=HY.out rfl;clear HY HX;generalize fh (ms.take k)=L at *;go_wp2_with (at_builtin;refine IZ _ rfl _ _ 69 rfl w.heap.size 9 i0 _ 1 16 Tryz.underlying69 fH dt gJ gB rfl (by omega) _ L.length (L.map Y) rfl ?hown ⟨wr.heap.size+1,0,be⟩ 1 1 [Y nk] rfl rfl ?hnews (by intro u hu;simp at hu;subst hu;rfl) ?h63 ?hbytes ?hbase ?_)
    case hown=>exact HO.out.below (((Ib _ _).alloc (Ie _) _).alloc (by simp) _)
    case hnews=>(intro j u hj;rw[Addr.add_lit];have hh:=ae (Ij (wr.alloc (By #[Y nk,U O 2,U O lk,U O ak,Ia vk] 52)) (By #[Y nk] 9)) (0+j);rw[show(wr.alloc (By #[Y nk,U O 2,U O lk,U O ak,Ia vk] 52)).heap.size=wr.heap.size+1 by simp] at hh;exact hh.trans (by simpa using hj))
    case h63=>(unfold Io;omega)
    case hbytes=>omega
    case hbase=>first|omega|(simp;omega)
    intro v' w2 r1 r2 r3;have ja:Hid (tZ _ _ _ _):=yr r1;have bA:Hid _:=((aO.alloc cB _).alloc (by simp;omega) _).grown r2 (by simp;omega) (λj hj=>(HO.out.lt j hj).1);go_wp2_with fail;exact⟨⟨k+1,by omega,by go_num,bA.out,by rw[HY2.out];exact ja⟩,by simp[intOf];omega⟩
   .have e1:(sk==1)=false:=by simpa using h
    have e2:(sk==2)=false:=by simpa using h'
    have Dx:Hid _:=HX.out (by simp[isLive,h,h']);clear HY HX h h';go_wp2_with fail;go_roundw
    case rel=>exact⟨k+1,by omega,by go_num,aO.alloc cB _,by rw[Dx.out];exact HO.out.below ((Ib _ _).alloc (Ie _) _)⟩
    case measure=>simp[intOf];omega
  .have HF:Hid (tZ w.heap.size wr u5 (fh ms)):=by
    have h:=HO.out;rw[List.take_of_length_le (by rw[HN.out];omega)] at h;exact h
   go_wp2_with fail;go_ret2;exact⟨u5,rfl,HF,aO⟩
def Vx(wh:List Wh.bT)(x:Wh.bT):Int:=if 20<(Wh.aN wh x).length then 2 else 0
theorem Kc(L b:Nat)(n:Nd)(x:Wh.bT)(w:World)(h:Wk L w b n)(hL:L<=b)(hf:Wh.qA n.wh)(hx:x.ok) :
 Calls AS 186 #[If (AI ⟨b,0,be⟩),Ik #[Y x.node,U O x.x,U O x.y,U O x.z,U O x.h,U O x.s]] w λe w'=>e=AT (U O (Vx n.wh x))/\Sh (λk=>k=b) w w'/\Hid (Wk L w' b { n with wh:=Wh.aN n.wh x }):=by
 have rJ:Hid (Wk L w b n):=h;have aO:=h.lt;obtain⟨vm,vr,vs,vg,vw,h1,h2,h3,h4⟩:=h;have nL:Hid _:=h2.is h4;obtain⟨aw,cw,LC,_⟩:=aE h2.wh;subst LC;obtain⟨W1,db,aC,fO,cI⟩:=bV w #[Y x.node,U O x.x,U O x.y,U O x.z,U O x.h,U O x.s] 116;have aZ:Hid _:=aC;obtain⟨W3,ee⟩:∃W3,W3=((W1.alloc (By #[Y x.node,U O x.x,U O x.y,U O x.z,U O x.h,U O x.s] 116)).alloc (By #[J aw n.wh.length cw,J (AI ⟨W1.heap.size,0,be⟩) 1 1] 48)).drew:=⟨_,rfl⟩;have bY:Below w.heap.size w W3:=by rw[ee];exact((aC.alloc aC.size _).alloc (by simp;omega) _).drew
 have tR:W3.heap.size=W1.heap.size+2:=by rw[ee];simp
 have mJ:W3.heap[W1.heap.size+1]?=AI (By #[J aw n.wh.length cw,J (AI ⟨W1.heap.size,0,be⟩) 1 1] 48 (0,0)):=by
  have h:=Ij (W1.alloc (By #[Y x.node,U O x.x,U O x.y,U O x.z,U O x.h,U O x.s] 116)) (By #[J aw n.wh.length cw,J (AI ⟨W1.heap.size,0,be⟩) 1 1] 48);rw[ee,dS];simpa using h
 have Xu:W3.heap[W1.heap.size]?=AI (By #[Y x.node,U O x.x,U O x.y,U O x.z,U O x.h,U O x.s] 116 (0,0)):=by
  rw[ee,dS,Below.heap_alloc _ _ _ (by simp)];exact Ij W1 _
 have Ly:Wh.Sl W3 (J (AI ⟨W1.heap.size,0,be⟩) 1 1) [x]:=by
  refine⟨_,_,rfl,Wh.cD (λm hm=>by simp at hm;rw[hm];exact hx),.inr ⟨_,0,rfl,by omega,λj hj=>?_⟩⟩;have T5:j=0:=by simpa using hj
  subst T5;exact⟨ae Xu 0,ae Xu 1,ae Xu 2,ae Xu 3,ae Xu 4,ae Xu 5⟩
 have HJ:Hid (Calls AS 230 #[IQ (.func 111) #[] #[],IQ (.func 229) #[] #[],J (AI ⟨W1.heap.size+1,0,be⟩) 2 2] W3 λe w'=>∃p c,e=AT (J p (Wh.aN n.wh x).length c)/\Hid (Wh.Own W3.heap.size w' (J p (Wh.aN n.wh x).length c) (Wh.aN n.wh x))/\Below W3.heap.size W3 w'):=by
  refine(Wh.jv n.wh [x] _ _ (W1.heap.size+1) 2 W3 (nL.out.wh.below bY) Ly (by omega) (ae mJ 0) (ae mJ 1) hf.len (by simp) hf.GY).mono ?_;rintro e w' ⟨v',rfl,ho,hb⟩;obtain⟨p,c,rfl,_⟩:=aE ho;exact⟨p,c,rfl,ho,hb⟩
 have vf:Hid (∀w1 a k c,Below W3.heap.size W3 w1->Wh.Own W3.heap.size w1 (J a k c) (Wh.aN n.wh x)->Wk L (w1.setCell ⟨b,11,be⟩ (J a k c)) b { n with wh:=Wh.aN n.wh x }/\Sh (λk=>k=b) w (w1.setCell ⟨b,11,be⟩ (J a k c))/\w1.heap[b]?=AI (By (dE n vm vr vs vg (J aw n.wh.length cw)) 107 (0,0))):=λw1 a k c Sm Rb=>
  ⟨(rJ.out.below bY).Wn (by have:=bY.size;omega) Sm Rb (Wh.lJ hf.ok hx),((Sh.of bY).next Sm).setCell (S:=λk=>k=b) rfl _,((bY.trans (Sm.mono bY.size)).block _ aO).trans h1⟩
 have HX:Hid (∀W,Below w.heap.size w W->W.heap[b]?=AI (By (dE n vm vr vs vg (J aw n.wh.length cw)) 107 (0,0))):=λW hW=>(hW.block _ aO).trans h1;have HE:Hid (Vx n.wh x=if 20<(Wh.aN n.wh x).length then 2 else 0):=rfl;generalize Vx n.wh x=res at *;generalize Wh.aN n.wh x=HL at *;generalize ie:HL.length=kl at *;have LD:Hid _:=ie;have y11:=ae (HX.out W1 aC) 11;clear ie h1 h2 h3 h4 hf hx Ly Xu mJ tR bY aC;generalize n.wh.length=nl at *;obtain⟨x0,x1,x2,x3,x4,x5⟩:=x;simp only at cI db ee;obtain⟨c0,c1,c2,c3,c4,c5⟩:=fX cI;have apb:b<W1.heap.size:=by omega
 have apc:w.heap.size<W1.heap.size:=by omega
 have Bl:¬ b=W1.heap.size:=by omega
 have Dg:¬ w.heap.size=W1.heap.size:=by omega
 have apd:¬ b=W1.heap.size+1:=by omega
 have ape:¬ w.heap.size=W1.heap.size+1:=by omega
 have vh:Hid _:=fO;clear cI fO;go_enter Tryz.func186,Tryz.ntmps186;go_upto_region 2 with fail
 rw[<- db];clear db;go_region_with (first|(go_at_call 230;refine(show Calls _ _ _ _ _ by first|(rw[<- ee];exact HJ.out)|(have h:=HJ.out;rw[ee] at h;exact h)).mono ?_;rintro e w5 ⟨a,c,rfl,Vc,j9⟩;obtain⟨i1,i2,i3⟩:=vf.out w5 a kl c j9 Vc.out;have HI1:Hid (Wk L (w5.setCell ⟨b,11,be⟩ (J a kl c)) b { n with wh:=HL }):=i1;have HI2:Hid (Sh (λk=>k=b) w (w5.setCell ⟨b,11,be⟩ (J a kl c))):=i2;have z11:w5.cell? ⟨b,11,be⟩=AI (J aw nl cw):=ae i3 11;have zf:w5.frozen? ⟨b,11,be⟩=false:=aA i3 11;clear Vc j9 i1 i2 i3))
 all_goals
  by_cases hk20:20<kl
  .have HR:Hid _:=HE.out.trans (if_pos hk20)
   have Sn:(20:Int)<(kl:Int):=by omega
   clear hk20 HE;go_wp2_with fail;go_ret;exact⟨an HR.out.symm,HI2.out,HI1⟩
  .have HR:Hid _:=HE.out.trans (if_neg hk20)
   have Sn:¬ (20:Int)<(kl:Int):=by omega
   clear hk20 HE;go_wp2_with fail;go_ret;exact⟨an HR.out.symm,HI2.out,HI1⟩
end Go.Proofs.YtbfghimjdlpicaaGreatDoor
namespace Go.Proofs
open Go.Shelf
def Tryz.Kd:Go.Shelf.Ren:=⟨fun|6=>68|15=>115|14=>119|28=>165|29=>166|20=>171|21=>172|22=>173|23=>174|24=>175|25=>176|26=>177|27=>178|46=>205|47=>206|48=>207|49=>208|50=>209|57=>251|n=>n,fun|22=>45|24=>52|25=>133|3=>3|39=>161|0=>0|53=>200|55=>202|4=>4|46=>207|45=>206|50=>154|5=>5|9=>9|66=>236|70=>240|76=>281|77=>282|n=>n,fun|n=>n⟩
theorem Tryz.acu:Go.Proofs.SlLaysF0.n6 AS Tryz.Kd:={
 mixed:=by kernel_rfl
 f6:=⟨Tryz.f68.name,by decide,Tryz.func68.trans (congrArg AI (by kernel_rfl))⟩
 f14:=⟨Tryz.f119.name,by decide,Tryz.func119.trans (congrArg AI (by kernel_rfl))⟩
 f15:=Tryz.func115.trans (congrArg AI (by kernel_rfl))
 f20:=⟨Tryz.f171.name,by decide,Tryz.func171.trans (congrArg AI (by kernel_rfl))⟩
 f21:=⟨Tryz.f172.name,by decide,Tryz.func172.trans (congrArg AI (by kernel_rfl))⟩
 f22:=⟨Tryz.f173.name,by decide,Tryz.func173.trans (congrArg AI (by kernel_rfl))⟩
 f23:=⟨Tryz.f174.name,by decide,Tryz.func174.trans (congrArg AI (by kernel_rfl))⟩
 f24:=⟨Tryz.f175.name,by decide,Tryz.func175.trans (congrArg AI (by kernel_rfl))⟩
 f25:=⟨Tryz.f176.name,by decide,Tryz.func176.trans (congrArg AI (by kernel_rfl))⟩
 f26:=⟨Tryz.f177.name,by decide,Tryz.func177.trans (congrArg AI (by kernel_rfl))⟩
 f27:=⟨Tryz.f178.name,by decide,Tryz.func178.trans (congrArg AI (by kernel_rfl))⟩
 f28:=Tryz.func165.trans (congrArg AI (by kernel_rfl))
 f29:=Tryz.func166.trans (congrArg AI (by kernel_rfl))
 f46:=⟨Tryz.f205.name,by decide,Tryz.func205.trans (congrArg AI (by kernel_rfl))⟩
 f47:=Tryz.func206.trans (congrArg AI (by kernel_rfl))
 f48:=Tryz.func207.trans (congrArg AI (by kernel_rfl))
 f49:=⟨Tryz.f208.name,by decide,Tryz.func208.trans (congrArg AI (by kernel_rfl))⟩
 f50:=⟨Tryz.f209.name,by decide,Tryz.func209.trans (congrArg AI (by kernel_rfl))⟩
 f57:=⟨Tryz.f251.name,by decide,Tryz.func251.trans (congrArg AI (by kernel_rfl))⟩
 t0:=Tryz.underlying0
 a0:=Tryz.isAgg0
 z0:=Tryz.sizeOf0
 v0:=Tryz.zeroValue0
 t3:=Tryz.underlying3
 a3:=Tryz.isAgg3
 z3:=Tryz.sizeOf3
 v3:=Tryz.zeroValue3
 t4:=Tryz.underlying4
 a4:=Tryz.isAgg4
 z4:=Tryz.sizeOf4
 v4:=Tryz.zeroValue4
 t5:=Tryz.underlying5
 a5:=Tryz.isAgg5
 z5:=Tryz.sizeOf5
 v5:=Tryz.zeroValue5
 t9:=Tryz.underlying9
 a9:=Tryz.isAgg9
 z9:=Tryz.sizeOf9
 v9:=Tryz.zeroValue9
 t22:=Tryz.underlying45
 a22:=Tryz.isAgg45
 z22:=Tryz.sizeOf45
 v22:=Tryz.zeroValue45
 t25:=Tryz.underlying133
 a25:=Tryz.isAgg133
 z25:=Tryz.sizeOf133
 v25:=Tryz.zeroValue133
 t39:=Tryz.underlying161
 a39:=Tryz.isAgg161
 z39:=Tryz.sizeOf161
 v39:=Tryz.zeroValue161
 t45:=Tryz.underlying206
 a45:=Tryz.isAgg206
 z45:=Tryz.sizeOf206
 v45:=Tryz.zeroValue206
 t46:=Tryz.underlying207
 a46:=Tryz.isAgg207
 z46:=Tryz.sizeOf207
 v46:=Tryz.zeroValue207
 t50:=Tryz.underlying154
 a50:=Tryz.isAgg154
 z50:=Tryz.sizeOf154
 v50:=Tryz.zeroValue154
 t53:=Tryz.underlying200
 a53:=Tryz.isAgg200
 z53:=Tryz.sizeOf200
 v53:=Tryz.zeroValue200
 t55:=Tryz.underlying202
 a55:=Tryz.isAgg202
 z55:=Tryz.sizeOf202
 v55:=Tryz.zeroValue202
 t66:=Tryz.underlying236
 a66:=Tryz.isAgg236
 z66:=Tryz.sizeOf236
 v66:=Tryz.zeroValue236
 t70:=Tryz.underlying240
 a70:=Tryz.isAgg240
 z70:=Tryz.sizeOf240
 v70:=Tryz.zeroValue240
 t76:=Tryz.underlying281
 a76:=Tryz.isAgg281
 z76:=Tryz.sizeOf281
 v76:=Tryz.zeroValue281
 t77:=Tryz.underlying282
 a77:=Tryz.isAgg282
 z77:=Tryz.sizeOf282
 v77:=Tryz.zeroValue282 }
end Go.Proofs
namespace Go.Proofs.YtbfghimjdlpicaaGreatDoor
open Go.RowKit Go.Sort Go.Lib
def Xv(a b:Mem):Int:=bW a.name b.name
theorem Ke(x y:Mem)(W:World):aK 69 #[Ik #[Y x.name,U O x.state,U O x.aI,U O x.addr,Ia x.server],Ik #[Y y.name,U O y.state,U O y.aI,U O y.addr,Ia y.server]] W λe w'=>e=AT (U O (Xv x y))/\∃q os',w'=grow (W.drewN q) os':=by
 unfold Xv;go_enter Tryz.func69,Tryz.ntmps69;go_wp2_with (go_at_call 70;refine(iq _ _ _).mono ?_;rintro e w' ⟨rfl,rfl⟩);go_ret;exact⟨rfl,0,_,by rw[alloc_eq_grow,alloc_eq_grow,grow_grow];rfl⟩
theorem NH[Inhabited Mem](blk off size:Nat)(w:World):CmpLays AS 69 #[] Mem.cs 5 Xv blk off size w:=λ_ _ _ _ x y=>Ke x y _
theorem aif:SWO (ltOf Xv) where
 irrefl x:=by simp[ltOf,Xv,(bL x.name x.name).2 rfl]
 trans x y z:=by
  simp only[ltOf,Xv,decide_eq_true_eq,fq];exact λh1 h2=>fT h1 h2
 ntrans x y z:=by
  intro h1 h2;have h1:=of_decide_eq_false h1;have h2:=of_decide_eq_false h2;refine decide_eq_false λh3=>?_;have h3:bW x.name z.name<0:=h3;rcases Int.lt_trichotomy (bW x.name y.name) 0 with h|h|h
  .exact h1 h
  .have e:x.name=y.name:=(bL _ _).1 h
   rw[e] at h3;exact h2 h3
  .have h4:=(oS _ _).1 h
   exact h2 ((fq _ _).2 (fT h4 ((fq _ _).1 h3)))
theorem Kf[Inhabited Mem]{base:Nat}{w:World}{g c:Nat}{l:List Mem}(h:Own base w (J (AI ⟨g,0,be⟩) l.length c) l):HoldsK Mem.cs 5 w g 0 l.toArray:=by
 rcases h.2 with⟨h1,_⟩|⟨g',c',cur,h1,eX,hg,gK,et,cE,bo⟩
 .cases h1
 .simp only[Value.slice.injEq,Option.some.injEq,Addr.mk.injEq] at h1
  obtain⟨⟨rfl,_,_⟩,_,_⟩:=h1;intro j hj;rw[size_flatK] at hj;have GC:j<l.length*5:=by simpa using hj
  refine⟨?_,aA hg _⟩;rw[ae hg,ID,get_flatK Mem.cs 5 l.toArray j (by simpa using GC)];have e1:=eK l (j/5) (by omega) (j%5) (by omega);rw[show j/5*5+j%5=j by omega] at e1;have e2:cur[j]?=(fl l)[j]?:=by rw[<- bo,IP (by omega)];simp
  rw[e2,e1];have e3:l.toArray[j/5]! = l.getD (j/5) dm:=by
   have aX:j/5<l.length:=by omega
   simp[Ir,aX]
  rw[e3];have hl:j%5<(l.getD (j/5) dm).cs.length:=by rw[bR];omega
  rw[Ic hl,getElem!_pos (l.getD (j/5) dm).cs (j%5) hl];rfl
theorem BF[Inhabited Mem]{w:World}{g m:Nat}{d:Array Mem}{os:Array Obj}{cur:Array Value}{T:Ja}{fr:Nat×Nat}(hg:w.heap[g]?=AI (By cur T fr)) : (QI Mem.cs 5 w g 0 m d os).heap[g]?=AI (By (putCells id 0 (flatK Mem.cs 5 d) cur) T fr):=by
 have aX:=(BY.1 hg).1;have xx:g<(putRowK Mem.cs 5 (Sort.ahead w m) g 0 d).heap.size:=by
  show g<(putRow id (Sort.ahead w m) g 0 _).heap.size;rw[size_putRow];exact aX
 show((putRowK Mem.cs 5 (Sort.ahead w m) g 0 d).heap++os)[g]?=_;rw[Array.getElem?_append_left xx];show(w.heap.modify g (onCells (putCells id 0 (flatK Mem.cs 5 d))))[g]?=_;rw[O1,if_pos rfl,hg];rfl
theorem DU[Inhabited Mem]{base:Nat}{w:World}{g c m:Nat}{l:List Mem}{os:Array Obj}(h:Own base w (J (AI ⟨g,0,be⟩) l.length c) l)(d:Array Mem)(hs:d.size=l.length) :
 Own base (QI Mem.cs 5 w g 0 m d os) (J (AI ⟨g,0,be⟩) l.length c) d.toList:=by
 rcases h.2 with⟨h1,_⟩|⟨g',c',cur,h1,eX,hg,gK,et,cE,bo⟩
 .cases h1
 .simp only[Value.slice.injEq,Option.some.injEq,Addr.mk.injEq] at h1
  obtain⟨⟨rfl,_,_⟩,_,rfl⟩:=h1;have hl:d.toList.length=l.length:=by simpa using hs
  have ho:Own base (QI Mem.cs 5 w g 0 m d os) (J (AI ⟨g,0,be⟩) d.toList.length c) d.toList:=by
   refine jo eX (BF hg) (by simp[putCells,cE]) (by omega) et ?_;apply List.ext_getElem?;intro t;by_cases ht:t<d.toList.length*5
   .have htc:t<cur.size:=by rw[cE];have:l.length*5<=c*5:=Nat.mul_le_mul_right 5 gK;omega
    rw[IP ht];have e1:=eK d.toList (t/5) (by omega) (t%5) (by omega);rw[show t/5*5+t%5=t by omega] at e1;rw[e1];have cB:t<d.size*5:=by simpa using ht
    have e2:(putCells id 0 (flatK Mem.cs 5 d) cur).toList[t]?=AI (flatK Mem.cs 5 d)[t]! := by
     simp only[putCells,Array.getElem?_toList,Array.getElem?_mapIdx,Array.getElem?_eq_getElem htc,Option.map_some];rw[if_pos ⟨IF _,by rw[size_flatK];omega⟩];rfl
    rw[e2,get_flatK Mem.cs 5 d t cB];have e3:d[t/5]! = d.toList.getD (t/5) dm:=by
     have aX:t/5<d.size:=by omega
     simp[Ir,aX]
    rw[e3];have jE:t%5<(d.toList.getD (t/5) dm).cs.length:=by rw[bR];omega
    rw[Ic jE,getElem!_pos (d.toList.getD (t/5) dm).cs (t%5) jE]
   .rw[I3 (by rw[IE];omega),I3 (by rw[da];omega)]
  rw[<- hl];exact ho
theorem acv(n:Nat)(W:World)(h:n<=12):aK 115 #[U .u64 n] W λe w'=>(∃l:Int,e=AT (U O l))/\w'=W:=
 (Tryz.bits_Len n W (by omega) (by omega)).mono λ_ _ ⟨he,hw⟩=>⟨⟨_,he⟩,hw⟩
theorem BG[Inhabited Mem]{B:Nat}{w:World}{g n:Nat}{d:Array Mem}{os:Array Obj}(hg:B<=g)(hB:B<=w.heap.size):Go.RowKit.Below B w (QI Mem.cs 5 w g 0 n d os):=by
 refine⟨rfl,rfl,rfl,by simp[QI,putRowK,putRow,mapBlock,J8,grow],λk hk=>?_⟩;unfold QI;rw[Go.Sort.heap_grow_old _ _ (by simp[putRowK,putRow,mapBlock,J8];omega)]
 have:g≠k:=by omega
 simp[putRowK,putRow,mapBlock,J8,O1,this]
theorem NI[Inhabited Mem]{w:World}{g n:Nat}{d:Array Mem}{os:Array Obj}:Sh (λk=>k=g) w (QI Mem.cs 5 w g 0 n d os):=by
 refine⟨rfl,rfl,rfl,by simp[QI,putRowK,putRow,mapBlock,J8,grow],λk hk aP=>?_⟩;unfold QI;rw[Go.Sort.heap_grow_old _ _ (by simp[putRowK,putRow,mapBlock,J8];omega)]
 have:g≠k:=λe=>aP e.symm
 simp[putRowK,putRow,mapBlock,J8,O1,this]
def NJ(l:List Mem):Prop:=∀i j,i<j->j<l.length->0<=bW (l.getD j dm).name (l.getD i dm).name
theorem DV(base:Nat)(l:List Mem)(g c:Nat)(w:World)(h:Own base w (J (AI ⟨g,0,be⟩) l.length c) l)(hb:base<=w.heap.size)(hl:l.length<=12) :
 aK 68 #[J (AI ⟨g,0,be⟩) l.length c,IQ (.func 69) #[] #[]] w λe w'=>e=AT (Ip #[])/\∃l':List Mem,l'.Perm l/\NJ l'/\Own base w' (J (AI ⟨g,0,be⟩) l.length c) l'/\Go.RowKit.Below base w w'/\Sh (λk=>k=g) w w':=by
 have eg:∀args w,(callFunc 69 args).run AS w=.ok (.enter 69 args) w:=enters_of Tryz.func69 (by kernel_rfl) rfl;have dv:=h.lt g rfl;have aih:Inhabited Mem:=⟨dm⟩;have rD:=AnyQ.slices_SortFunc_small_sorted Tryz.acu 5 Tryz.isAgg52 Tryz.sizeOf52 Mem.cs bR cX Xv 69 #[] aif g 0 c l.toArray w eg (NH g 0 _ w) (Kf h) dv.2 (by simpa using hl) acv;rw[List.size_toArray] at rD;refine Calls.mono rD ?_;rintro e w' ⟨rfl,d,n,os,hp,hs,rfl⟩;obtain⟨p1,_,p3⟩:=hp;have cB:d.size=l.length:=by simpa using p1
 refine⟨rfl,d.toList,?_,λi j jS hj=>?_,DU h d cB,BG dv.1 hb,NI⟩
 .have e1:d.extract 0 l.length=d:=by rw[<- cB];simp
  have e2:l.toArray.extract 0 l.length=l.toArray:=by simp
  rw[e1,e2] at p3;simpa using p3
 .have GC:j<d.size:=by simpa using hj
  have h2:=hs i j (IF _) jS (by rw[<- cB];exact GC);have h3:¬ bW (d[j]!).name (d[i]!).name<0:=of_decide_eq_false h2;have e1:d[j]! = d.toList.getD j dm:=by simp[Ir,GC]
  have e2:d[i]! = d.toList.getD i dm:=by simp[Ir,show i<d.size by omega]
  rw[e1,e2] at h3;omega
theorem Kg(f:Value)(w:World) :
 aK 171 #[J be 0 0,U O 0,U O 0,f] w λe w'=>e=AT (Ip #[])/\w'=w:=by
 go_enter Tryz.func171,Tryz.ntmps171;go_wp2_with fail;refine Od 1 ?_;rw[JZ];go_wp2_with fail;go_end0
 exact⟨rfl,rfl⟩
theorem Kh(k:Int)(f:Value)(w:World) :
 aK 119 #[J be 0 0,U O 0,U O 0,U O k,f] w λe w'=>e=AT (Ip #[])/\w'=w:=by
 go_enter Tryz.func119,Tryz.ntmps119;go_wp2_with fail;refine Od 1 ?_;rw[JZ];go_wp2_with (go_at_call 171;refine(Kg _ _).mono ?_;rintro e w' ⟨rfl,rfl⟩)
 (try simp only[Exit.inBlock,Exit.then]);refine IL (results_none rfl _ _ _) rfl ?_
 exact⟨rfl,rfl⟩
theorem DW(f:Value)(w:World) :
 aK 68 #[J be 0 0,f] w λe w'=>e=AT (Ip #[])/\w'=w:=by
 go_enter Tryz.func68,Tryz.ntmps68;go_wp2_with (go_at_call 115;refine(Tryz.bits_Len _ _ (by omega) (by omega)).mono ?_;rintro e w' ⟨rfl,rfl⟩);refine(Kh _ _ _).mono ?_;rintro e w' ⟨rfl,rfl⟩;go_wp2_with fail;go_end0
 exact⟨rfl,rfl⟩
theorem Ki(base:Nat)(l:List Mem)(v:Value)(w:World)(h:Own base w v l)(hb:base<=w.heap.size)(hl:l.length<=12) :
 aK 68 #[v,IQ (.func 69) #[] #[]] w λe w'=>e=AT (Ip #[])/\∃l':List Mem,l'.Perm l/\NJ l'/\Own base w' v l'/\Go.RowKit.Below base w w'/\Sh (λk=>v.ownBlock=AI k) w w':=by
 rcases h.2 with⟨h1,h2⟩|⟨g,c,cur,h1,_⟩
 .subst h1
  have he:=Je h2;subst he;refine(DW _ w).mono ?_;rintro e w' ⟨rfl,rfl⟩;exact⟨rfl,[],.refl _,λi j _ hj=>by simp at hj,cv _ _,Go.RowKit.Below.refl _ _,Sh.refl _ _⟩
 .subst h1
  refine(DV base l g c w h hb hl).mono ?_;rintro e w' ⟨rfl,l',h1,h2,h3,h4,h5⟩;exact⟨rfl,l',h1,h2,h3,h4,h5.mono (λk hk=>by rw[hk];rfl)⟩
end Go.Proofs.YtbfghimjdlpicaaGreatDoor
namespace Go.Proofs.YtbfghimjdlpicaaGreatDoor
open Go.RowKit Go.Sort Go.Shelf Go.Lib
theorem DX(v:Value)(w:World)(hv:oj w v []) :
 Calls AS 116 #[v] w λe w'=>e=AT (J be 0 0)/\Below w.heap.size w w':=by
 obtain⟨pa,ca,rfl,_,_⟩:=hv;simp only[IX];have hs:=λ(fv:Value) (W:World)=>AnyF.slices_SortFunc_none (P:=AS) (ρ:=Tryz.xT) { Tryz.T7 with } be 0 fv W;have HS:Hid _:=hs;clear hs;have tK:Below w.heap.size w (w.alloc (By #[J pa 0 ca] 46)):=(Ib _ _).alloc (Ie _) _;go_enter Tryz.func116,Tryz.ntmps116;go_wp2_with fail;refine Od 1 ?_;rw[JZ];go_wp2_with fail;refine(HS.out _ _).mono ?_;rintro e w' ⟨rfl,rfl⟩;go_wp2_with fail;go_ret;exact⟨rfl,tK⟩
theorem vO(p:Option Addr)(c:Nat)(fv:Value)(w:World) :
 Calls AS 148 #[J p 0 c,fv] w λe w'=>e=AT (U O (-1))/\w'=w:=by
 go_enter Tryz.func148,Tryz.ntmps148;go_wp2_with fail;refine Od 1 ?_;rw[JZ];go_wp2_with fail;go_ret;exact⟨rfl,rfl⟩
theorem ua(p:Option Addr)(c:Nat)(fv:Value)(w:World) :
 Calls AS 117 #[J p 0 c,fv] w λe w'=>e=AT (J p 0 c)/\w'=w:=by
 go_enter Tryz.func117,Tryz.ntmps117;go_wp2_with fail;refine(vO _ _ _ _).mono ?_;rintro e w' ⟨rfl,rfl⟩;go_wp2_with fail;go_ret;exact⟨rfl,rfl⟩
theorem Kj(v:Value)(most times:Int)(w:World)(hv:oj w v [])(h0:eB []=0)(hm:within most 1 20=true)(ht:within times 1 100=true) :
 Calls AS 67 #[v,U O most,U O times] w λe w'=>∃v1 v2,e=AT (Ip #[v1,v2,U O 0])/\Own w.heap.size w' v1 []/\cV w.heap.size w' v2 []/\Below w.heap.size w w':=by
 have HV:Hid (oj w v []):=hv;have rC:1<=most/\most<=20:=by simp[within] at hm;omega
 obtain⟨rC,hm2⟩:=rC;have kQ:=λ(w:World) (h:oj w v [])=>hU [] v w h;rw[h0] at kQ;obtain⟨pa,ca,rfl,_,_⟩:=hv;simp only[IX] at *;have tK:Below w.heap.size w (w.alloc (By #[U O times] 3)):=(Ib _ _).alloc (Ie _) _;go_enter Tryz.func67,Tryz.ntmps67;go_wp2_with fail;refine(kQ _ (HV.out.below tK)).mono ?_;rintro e w1 ⟨rfl,aC⟩;have c1:w1.cell? ⟨w.heap.size,0,be⟩=AI (U O times):=by
  rw[aC.cell (p:=⟨w.heap.size,0,be⟩) (by simp)];exact dh rfl
 have aZ:Hid _:=tK.trans (aC.mono (by simp));clear aC tK kQ;go_wp2_with (go_at_call 51;refine(cM _ _ _ _).mono ?_;rintro e w' ⟨rfl,rfl⟩;first|rw[hm]|rw[ht]);refine(hY [] _ _ (HV.out.below aZ.out) (by simp)).mono ?_;rintro e w3 ⟨v3,rfl,lA,bY⟩;have eG:Hid (cV _ _ _ _):=lA.base aZ.out.size;have cF:Hid _:=aZ.out.trans (bY.mono aZ.out.size);clear bY lA c1;go_wp2_with fail;refine(DX _ _ (HV.out.below cF.out)).mono ?_;rintro e w4 ⟨rfl,eV⟩;have gC:Hid _:=cF.out.trans (eV.mono cF.out.size);have pB:Hid (cV _ _ _ _):=eG.out.below eV;clear eV eG;obtain⟨g,c,A4⟩:∃g c,v3=J g 0 c:=by
  rcases pB.out.2 with⟨h,_⟩|⟨g,c,cur,h,_⟩
  .exact⟨_,_,h⟩
  .exact⟨_,_,h⟩
 subst A4;have agt:min most 0=0:=by omega
 go_wp2_with fail;refine Od 1 ?_;rw[JZ];go_wp2_with fail;refine(ua _ _ _ _).mono ?_;rintro e w' ⟨rfl,rfl⟩;go_wp2_with fail;go_ret3
 exact⟨_,_,rfl,cv _ _,pB.out,gC.out⟩
end Go.Proofs.YtbfghimjdlpicaaGreatDoor
namespace Go.Proofs.YtbfghimjdlpicaaGreatDoor
open Go.RowKit
def sX(rs:List bU)(times:Int)(told:List Mem)(rest:List bU):Prop:=
 (rs=[]/\told=[]/\rest=[])\/(0<rs.length/\∃ord,jJ rs ord/\told=iw rs ord (min 5 rs.length)/\rest=(bump rs ord (min 5 rs.length)).filter (eM times))
theorem vP{rs:List bU}{times:Int}{told:List Mem}{rest:List bU}(h:sX rs times told rest):told.length<=5:=by
 rcases h with⟨_,rfl,_⟩|⟨_,ord,_,rfl,_⟩
 .simp
 .unfold iw;rw[JJ,IE];omega
theorem mA{rs:List bU}{ord:List Nat}{k:Nat}(h:jJ rs ord){m:Mem}(hm:m∈iw rs ord k):∃r∈rs,r.m=m:=by
 unfold iw at hm;obtain⟨i,hi,rfl⟩:=List.mem_map.1 hm;have hb:=h.bd i (Jf hi);refine⟨rs[i],IK _,?_⟩;simp[Ir,Ic hb]
theorem BH(rs:List bU):∀(is:List Nat) (r:bU),r∈is.foldl ft rs->(∃x∈rs,x.m=r.m)\/r.m=dm
 |[],r,h=>.inl ⟨r,h,rfl⟩
 |i::is,r,h=>by
  rw[List.foldl_cons] at h;rcases BH (ft rs i) is r h with⟨x,hx,e⟩|e
  .unfold ft at hx
   rcases List.mem_or_eq_of_mem_set hx with hx|rfl
   .exact .inl ⟨x,hx,e⟩
   .by_cases hi:i<rs.length
    .exact .inl ⟨rs[i],IK _,by rw[<- e];simp[Ir,Ic hi]⟩
    .exact .inr (by rw[<- e];simp[Ir,I3 (Nat.le_of_not_lt hi),dr])
  .exact .inr e
theorem yt{rs:List bU}{times:Int}{told:List Mem}{rest:List bU}(h:sX rs times told rest)(hr:∀r∈rs,r.m.name.size<=Io):(∀m∈told,m.name.size<=Io)/\∀r∈rest,r.m.name.size<=Io:=by
 rcases h with⟨_,rfl,rfl⟩|⟨_,ord,ho,rfl,rfl⟩
 .exact⟨λm hm=>by simp at hm,λm hm=>by simp at hm⟩
 .refine⟨λm hm=>?_,λr DY=>?_⟩
  .obtain⟨r,h1,rfl⟩:=mA ho hm;exact hr r h1
  .have h1:=(List.mem_filter.1 DY).1
   rcases BH rs _ r h1 with⟨x,hx,e⟩|e
   .rw[<- e];exact hr x hx
   .rw[e];simp[dm]
theorem Kk(rs:List bU)(v:Value)(times:Int)(w:World)(hv:oj w v rs)(h0:eB rs=0)(ht:within times 1 100=true) :
 aK 67 #[v,U O 5,U O times] w λe w'=>∃a k c a2 k2 c2 told rest,e=AT (Ip #[J a k c,J a2 k2 c2,U O 0])/\Hid (sX rs times told rest)/\Own w.heap.size w' (J a k c) told/\cV w.heap.size w' (J a2 k2 c2) rest/\Below w.heap.size w w':=by
 by_cases hp:0<rs.length
 .have hT:=CS rs v (rs.length-1) (by omega) (by have:=(mW h0).1;omega)
  refine(GI rs v 5 times w hv h0 rfl ht hp hT).mono ?_;rintro e w' ⟨v1,v2,ord,rfl,ho,h1,h2,hb⟩;obtain⟨a,c,rfl,_⟩:=aE h1;obtain⟨a2,c2,rfl,_⟩:=aE h2;exact⟨a,_,c,a2,_,c2,_,_,rfl,.inr ⟨hp,ord,ho,rfl,rfl⟩,h1,h2,hb⟩
 .have he:rs=[]:=Je (by omega)
  subst he;refine(Kj v 5 times w hv h0 rfl ht).mono ?_;rintro e w' ⟨v1,v2,rfl,h1,h2,hb⟩;obtain⟨a,c,rfl,_⟩:=aE h1;obtain⟨a2,c2,rfl,_⟩:=aE h2;exact⟨a,_,c,a2,_,c2,_,_,rfl,.inl ⟨rfl,rfl,rfl⟩,h1,h2,hb⟩
def tmN(n:Nd):Int:=max (3*(Lib.bitLen (fh n.ms).length:Nat)) 1
def j8(n:Nd)(l:List Mem)(rest:List bU):Prop:=∃told,sX n.rs (tmN n) told rest/\l.Perm told/\NJ l
theorem yu:∀{a b:List Mem},aT a->aT b->a.Perm b->a=b
 |[],b,_,_,h=>h.nil_eq
 |x::r,[],_,_,h=>absurd h.length_eq (by simp)
 |x::r,y::s,ha,hb,h=>by
  have hx:=JB.1 ha;have hy:=JB.1 hb;have e:x=y:=by
   rcases IN.1 (h.mem_iff.1 (Jg ..):x∈y::s) with h1|h1
   .exact h1
   .rcases IN.1 (h.mem_iff.2 (Jg ..):y∈x::r) with h2|h2
    .exact h2.symm
    .have:=fT (hx.1 y h2) (hy.1 x h1)
     rw[ep] at this;cases this
  subst e;rw[yu hx.2 hy.2 (List.perm_cons _ |>.1 h)]
theorem DZ{rs:List bU}{ord:List Nat}(ho:jJ rs ord)(hd:dY rs)(k:Nat):(iw rs ord k).Pairwise λx y=>x.name≠y.name:=by
 unfold iw;rw[List.pairwise_map];have h1:(ord.take k).Nodup:=ho.nodup.sublist (List.take_sublist _ _);refine List.Pairwise.imp_of_mem ?_ h1;intro a b ha hb aP;have h2:=ho.bd a (Jf ha);have h3:=ho.bd b (Jf hb);rcases Nat.lt_or_gt_of_ne aP with h|h
 .exact hd a b h h3
 .exact(hd b a h h2).symm
theorem zM{rs:List bU}{times:Int}{told:List Mem}{rest:List bU}(h:sX rs times told rest)(hd:dY rs):told.Pairwise λx y=>x.name≠y.name:=by
 rcases h with⟨_,rfl,_⟩|⟨_,ord,ho,rfl,_⟩
 .exact .nil
 .exact DZ ho hd _
theorem BI{ms:List Mem}(h:ms.length<=20):(fh ms).length<=20:=by
 unfold fh;rw[JJ];exact Is (List.length_filter_le _ _) h
theorem Wk.pk{L b c:Nat}{W:World}{n:Nd}(h:Wk L W b n)(hc:∃cs,W.heap[c]?=AI (By cs 61 (0,0)))(i:Nat)(x:Value):Wk L (W.setCell ⟨c,i,be⟩ x) b n/\∃cs,(W.setCell ⟨c,i,be⟩ x).heap[c]?=AI (By cs 61 (0,0)):=by
 obtain⟨cs,hc⟩:=hc;obtain⟨vm,vr,vs,vg,vw,h1,h2,h3,h4⟩:=h;have aP:b≠c:=by
  intro e;rw[e,hc] at h1;injection h1 with h1;injection h1 with _ h1;exact absurd h1 (by decide)
 exact⟨⟨vm,vr,vs,vg,vw,(I0 W _ x b aP).trans h1,⟨Iv h2.ms (fw h2.ms hc (by decide)) _,Iv h2.rs (fw h2.rs hc (by decide)) _,Iv h2.sv (fw h2.sv hc (by decide)) _,Iv h2.gw (fw h2.gw hc (by decide)) _,Iv h2.wh (fw h2.wh hc (by decide)) _⟩,h3,h4⟩,_,IC (i:=i) hc x⟩
theorem Kl(L b:Nat)(n:Nd)(w:World)(h:Wk L w b n)(hL:L<=b)(xj:Sp n) :
 aK 38 #[If (AI ⟨b,0,be⟩)] w λe w'=>∃a k c l rest,e=AT (Ik #[Y n.name,Ia false,J a k c,J be 0 0,J be 0 0,J be 0 0])/\Hid (j8 n l rest)/\Own (w.heap.size+1) w' (J a k c) l/\Sh (λk=>k=b) w w'/\Wk L w' b { n with rs:=rest }:=by
 have rJ:Hid (Wk L w b n):=h;have aO:=h.lt;have Cm:Hid _:=xj;obtain⟨vm,vr,vs,vg,vw,h1,h2,h3,h4⟩:=h;have nL:Hid _:=h2.is h4;obtain⟨am,cm,ou,_⟩:=aE h2.ms;obtain⟨ar,cr,vc,_⟩:=aE h2.rs;subst ou vc;have Mx:=(aj xj.ms).1;have Hu:Hid _:=BI Mx;have HX:Hid (∀W,Below w.heap.size w W->W.heap[b]?=AI (By (dE n (J am n.ms.length cm) (J ar n.rs.length cr) vs vg vw) 107 (0,0))):=λW hW=>(hW.block _ aO).trans h1;have aii:Hid _:=h4.rs;obtain⟨W0,bP,bK,fj,dt⟩:=bV w #[Y ⟨#[]⟩,Ia false,J be 0 0,J be 0 0,J be 0 0,J be 0 0] 61;have y2:=ae (HX.out W0 bK) 2;have df:Hid _:=bK;have pC:Hid _:=dt;clear h1 h2 h3 h4 xj;go_enter Tryz.func38,Tryz.ntmps38;go_upto_region 1 with fail
 rw[<- bP];clear bP;go_wp2_with fail;refine(Kb n.ms _ W0 (nL.out.ms.below df.out) Cm.out.ms).mono ?_;rintro e w1 ⟨v1,rfl,Bj,aC⟩;obtain⟨a1,c1,Co,_⟩:=aE Bj.out;subst Co;have aZ:Hid _:=aC;have jI:Hid _:=df.out.trans (aC.mono (by omega));clear Bj aC y2 bK dt;have aij:within ((fh n.ms).length:Int) 0 20=true:=within_iff.2 ⟨by omega,by have:=Hu.out;omega⟩;go_wp2_with fail;refine(GA _ w1 aij).mono ?_;rintro e w2 ⟨rfl,uS⟩;have Vw:=uS.symm;subst Vw;have y3:=ae (HX.out w1 jI.out) 3;go_wp2_with fail;have htm:within (tmN n) 1 100=true:=by
  have aO:∀m,m<21->Lib.bitLen m<=5:=by decide
  have h1:=aO (fh n.ms).length (by have:=Hu.out;omega);refine within_iff.2 ⟨?_,?_⟩<;>(unfold tmN;omega)
 refine(Kk n.rs _ (tmN n) w1 (nL.out.rs.below jI.out) Cm.out.rs htm).mono ?_;rintro e w3 ⟨a3,k3,c3,a4,k4,c4,told,rest,rfl,HT,lA,ho4,bY⟩;have eG:Hid (Own _ _ _ _):=lA;have pB:Hid (cV _ _ _ _):=ho4;have cF:Hid _:=bY;have aik:=bY.size;clear lA ho4 bY y3;go_wp2_with fail;refine(Ki w1.heap.size told _ w3 eG.out aik (by have:=vP HT.out;omega)).mono ?_;rintro e w4 ⟨rfl,l,hp,hs,Vc,j9,M3⟩;have xq:Hid (Own _ _ _ _):=Vc;have HTL:Hid (j8 n l rest):=⟨told,HT.out,hp,hs⟩;have jd:Hid _:=cF.out.trans j9;have zN:Hid _:=jI.out.trans (jd.out.mono jI.out.size);have Ar:Hid (cV w1.heap.size w4 (J a4 k4 c4) rest):=by
  rcases pB.out.2 with hq|⟨g,c,cur,e1,e2,e3,e4⟩
  .exact⟨pB.out.1,.inl hq⟩
  .refine⟨pB.out.1,.inr ⟨g,c,cur,e1,e2,(M3.block g (BY.1 e3).1 (λe=>?_)).trans e3,e4⟩⟩
   exact fw eG.out e3 (by decide) e
 have hL2:L<=w.heap.size:=by omega
 have fO:w.heap.size+1<=w1.heap.size:=by have:=aZ.out.size;omega
 have nP:=(jd.out.block _ (by omega)).trans ((aZ.out.block _ (by omega)).trans pC.out);have Va:Hid _:=nP;have hx4:=HX.out w4 zN.out;have x0:=ae hx4 0;have x3:=ae hx4 3;have xz3:=aA hx4 3;have hbs:b<w4.heap.size:=by have:=zN.out.size;omega
 have aP:b≠w.heap.size:=by omega
 have Wt:w.heap.size≠b:=by omega
 have acw:w.heap.size<w4.heap.size:=by have:=jd.out.size;omega
 obtain⟨q0,q1,q2,q3,q4,q5⟩:=fX nP;obtain⟨xX,xY,zd,ze,zh,zi⟩:=MB nP;clear nP hx4 Vc j9 M3 hp hs;go_wp2_with fail;refine IL (v:=Ik #[Y n.name,Ia false,J a3 k3 c3,J be 0 0,J be 0 0,J be 0 0]) ?_ rfl ?_
 .simp[results,Tryz.results38,go_sem,q0,q1,q2,q3,q4,q5]
 .have k0:=rJ.out.MF hL2 zN.out (v:=J a4 k4 c4) (l:=rest) (Ar.out.base (by omega)) (yt HT.out aii.out).2
  have z0:∃cs,(w4.setCell ⟨b,3,be⟩ (J a4 k4 c4)).heap[w.heap.size]?=AI (By cs 61 (0,0)):=⟨_,(I0 w4 _ _ w.heap.size Wt).trans Va.out⟩;obtain⟨k1,z1⟩:=k0.pk z0 0 (Y n.name);obtain⟨k2,z2⟩:=k1.pk z1 1 (Ia false);obtain⟨k3',z3⟩:=k2.pk z2 2 (J a3 k3 c3);obtain⟨k4',z4⟩:=k3'.pk z3 3 (J be 0 0);obtain⟨k5,z5⟩:=k4'.pk z4 4 (J be 0 0);obtain⟨k6,z6⟩:=k5.pk z5 5 (J be 0 0);have tN:=(((((((Ib w.heap.size (w4.setCell ⟨b,3,be⟩ (J a4 k4 c4))).setCell (p:=⟨w.heap.size,0,be⟩) (by simp) (Y n.name)).setCell (p:=⟨w.heap.size,1,be⟩) (by simp) (Ia false)).setCell (p:=⟨w.heap.size,2,be⟩) (by simp) (J a3 k3 c3)).setCell (p:=⟨w.heap.size,3,be⟩) (by simp) (J be 0 0)).setCell (p:=⟨w.heap.size,4,be⟩) (by simp) (J be 0 0)).setCell (p:=⟨w.heap.size,5,be⟩) (by simp) (J be 0 0));have s0:Sh (λk=>k=b) w (w4.setCell ⟨b,3,be⟩ (J a4 k4 c4)):=Sh.setCell (S:=λk=>k=b) (Sh.of zN.out) (b:=b) (i:=3) rfl _;refine⟨a3,k3,c3,l,rest,rfl,HTL,?_,⟨tN.os.trans s0.os,tN.tape.trans s0.tape,tN.output.trans s0.output,Is s0.size tN.size,λi hi hn=>(tN.block i hi).trans (s0.block i hi hn)⟩,k6⟩;exact(Il (Il (Il (Il (Il (Il (Il (xq.out.mono fO) (a:=⟨b,3,be⟩) (by simp only;omega) _) (a:=⟨w.heap.size,0,be⟩) (by simp only;omega) _) (a:=⟨w.heap.size,1,be⟩) (by simp only;omega) _) (a:=⟨w.heap.size,2,be⟩) (by simp only;omega) _) (a:=⟨w.heap.size,3,be⟩) (by simp only;omega) _) (a:=⟨w.heap.size,4,be⟩) (by simp only;omega) _) (a:=⟨w.heap.size,5,be⟩) (by simp only;omega) _)
theorem Km(L b tb:Nat)(n:Nd)(w:World)(h:Wk L w b n)(hL:L<=b)(xj:Sp n)(hc:w.heap[tb]?=AI (By #[Y ⟨#[]⟩,Ia false,J be 0 0,J be 0 0,J be 0 0,J be 0 0] 61 (0,0))) :
 aK 37 #[If (AI ⟨b,0,be⟩),If (AI ⟨tb,0,be⟩)] w λe w'=>e=AT (U O 0)/\Sh (λk=>k=b\/k=tb) w w'/\∃a k c l rest,Hid (j8 n l rest)/\w'.heap[tb]?=AI (By #[Y n.name,Ia false,J a k c,J be 0 0,J be 0 0,J be 0 0] 61 (0,0))/\Own (w.heap.size+1) w' (J a k c) l/\Wk L w' b { n with rs:=rest }:=by
 have HC:=Kl L b n w h hL xj;have Wd:=(BY.1 hc).1;have aP:tb≠b:=by
  intro e;obtain⟨_,_,_,_,_,h1,_⟩:=h;rw[<- e,hc] at h1;injection h1 with h1;injection h1 with _ h1;exact absurd h1 (by decide)
 have HCB:Hid _:=hc;clear h xj hc;go_enter Tryz.func37,Tryz.ntmps37;go_wp2_with fail;refine HC.mono ?_;rintro e w1 ⟨a,k,c,l,rest,rfl,HT,ho,hs,hk⟩;have dD:=(hs.block _ Wd aP).trans HCB.out;have Lz:Hid _:=dD;have HO:Hid (Own _ _ _ _):=ho;have zj:Hid _:=hs;have HK:Hid (Wk _ _ _ _):=hk;have DS:=(BY.1 dD).1;obtain⟨q0,q1,q2,q3,q4,q5⟩:=fX dD;obtain⟨xX,xY,zd,ze,zh,zi⟩:=MB dD;clear dD ho hs hk HC;go_wp2_with fail;go_ret;have g0:=HK.out;have z0:∃cs,w1.heap[tb]?=AI (By cs 61 (0,0)):=⟨_,Lz.out⟩;obtain⟨g1,z1⟩:=g0.pk z0 0 (Y n.name);obtain⟨g2,z2⟩:=g1.pk z1 1 (Ia false);obtain⟨g3,z3⟩:=g2.pk z2 2 (J a k c);obtain⟨g4,z4⟩:=g3.pk z3 3 (J be 0 0);obtain⟨g5,z5⟩:=g4.pk z4 4 (J be 0 0);obtain⟨g6,z6⟩:=g5.pk z5 5 (J be 0 0);exact⟨rfl,(Sh.setCell (S:=λk=>k=b\/k=tb) (Sh.setCell (S:=λk=>k=b\/k=tb) (Sh.setCell (S:=λk=>k=b\/k=tb) (Sh.setCell (S:=λk=>k=b\/k=tb) (Sh.setCell (S:=λk=>k=b\/k=tb) (Sh.setCell (S:=λk=>k=b\/k=tb) (zj.out.mono (λk hk=>.inl hk)) (b:=tb) (i:=0) (.inr rfl) (Y n.name)) (b:=tb) (i:=1) (.inr rfl) (Ia false)) (b:=tb) (i:=2) (.inr rfl) (J a k c)) (b:=tb) (i:=3) (.inr rfl) (J be 0 0)) (b:=tb) (i:=4) (.inr rfl) (J be 0 0)) (b:=tb) (i:=5) (.inr rfl) (J be 0 0)),a,k,c,l,rest,HT,(IC (i:=5) (IC (i:=4) (IC (i:=3) (IC (i:=2) (IC (i:=1) (IC (i:=0) Lz.out (Y n.name)) (Ia false)) (J a k c)) (J be 0 0)) (J be 0 0)) (J be 0 0)),(Il ((Il ((Il ((Il ((Il ((Il (HO.out) (a:=⟨tb,0,be⟩) (by simp only;omega) (Y n.name))) (a:=⟨tb,1,be⟩) (by simp only;omega) (Ia false))) (a:=⟨tb,2,be⟩) (by simp only;omega) (J a k c))) (a:=⟨tb,3,be⟩) (by simp only;omega) (J be 0 0))) (a:=⟨tb,4,be⟩) (by simp only;omega) (J be 0 0))) (a:=⟨tb,5,be⟩) (by simp only;omega) (J be 0 0)),g6⟩
def oG(n:Nd)(ne:Int)(w:World)(e:Ending)(w':World):Prop:=Below w.heap.size w w' /\
 ((ne≠0/\e=AT (Ip #[Ik #[Y ⟨#[]⟩,Y ⟨#[]⟩,J be 0 0,J be 0 0,J be 0 0,J be 0 0,U O 0,U O 0,U O 0,U O 0,U O 0,J be 0 0],Ik #[Y ⟨#[]⟩,Ia false,J be 0 0,J be 0 0,J be 0 0,J be 0 0],U O ne])) \/
 (ne=0/\∃n' um ur us ug uw a k c l,e=AT (Ip #[Ik (dE n' um ur us ug uw),Ik #[Y n.name,Ia false,J a k c,J be 0 0,J be 0 0,J be 0 0],U O 0])/\n'={ n with rs:=n'.rs }/\j8 n l n'.rs/\cZ w.heap.size w' n' um ur us ug uw/\iE n'/\Own w.heap.size w' (J a k c) l))
def FG(n:Nd)(tb B:Nat)(n':Nd)(W:World):Prop:=∃a k c l,n'={ n with rs:=n'.rs }/\j8 n l n'.rs/\W.heap[tb]?=AI (By #[Y n.name,Ia false,J a k c,J be 0 0,J be 0 0,J be 0 0] 61 (0,0))/\Own B W (J a k c) l
theorem BJ(n:Nd)(vm vr vs vg vw:Value)(w:World)(h:eY w n vm vr vs vg vw) :
 aK 19 #[Ik (dE n vm vr vs vg vw)] w λe w'=>oG n n.e w e w':=by
 have nL:Hid _:=h;have ny:Hid (∀W0,Below w.heap.size w W0->W0.heap.size=w.heap.size+4->W0.heap[w.heap.size+3]?=AI (By #[Y ⟨#[]⟩,Ia false,J be 0 0,J be 0 0,J be 0 0,J be 0 0] 61 (0,0))->aK 32 #[Ik (dE n vm vr vs vg vw),IQ (.func 37) #[] #[If (AI ⟨w.heap.size+3,0,be⟩)]] W0 λe w'=>mm n.e 0 (λk=>k=w.heap.size+3) (FG n (w.heap.size+3) (W0.heap.size+2)) W0 e w'):=λW0 hb hs hc=>
  xW 37 #[If (AI ⟨w.heap.size+3,0,be⟩)] (enters_of Tryz.func37 (by kernel_rfl) rfl) n vm vr vs vg vw W0 (h.below hb) (λk=>k=w.heap.size+3) 0 (FG n (w.heap.size+3) (W0.heap.size+2))
   (λhe W b hW aL hk=>by
    refine(Km (W0.heap.size+2) b (w.heap.size+3) n W hk (by omega) (Nd.sp he) ((hW.block _ (by omega)).trans hc)).mono ?_;rintro e w' ⟨rfl,jb,a,k,c,l,rest,HT,pQ,ho,Fh⟩;have tp:=hk.lt;exact⟨rfl,jb.mono (λk hk=>by omega),λ_=>⟨_,Fh,a,k,c,l,rfl,HT.out,pQ,ho.mono (by omega)⟩⟩)
   (λn' W j x hR=>by
    obtain⟨a,k,c,l,h1,h2,h3,h4⟩:=hR;exact⟨a,k,c,l,h1,h2,(I0 _ _ _ _ (by simp only;omega)).trans h3,Il h4 (by simp only;omega) _⟩)
   (λ_ hk=>by omega)
 have R9:Hid (∀nd:Nd,nd=n->nd.name=n.name):=λ_ h=>by rw[h]
 generalize Gs:n.e=ne at *;clear Gs;have HN:Hid (∃n0,n0=n):=⟨_,rfl⟩;obtain⟨N,hN⟩:∃N,N=n:=⟨_,rfl⟩;rw[<- hN] at ny ⊢;have Si:Hid (N.name=n.name):=by rw[hN];rfl
 obtain⟨nm,ct,ms,rs,sv,gw,⟨px,py,pz,ph,pq⟩,wh⟩:=n;obtain⟨⟨em,cm,rfl,_,_⟩,⟨sJ,cr,rfl,_,_⟩,⟨es,sK,rfl,_,_⟩,⟨sL,cg,rfl,_,_⟩,⟨eh,ch,rfl,_,_⟩,_,_⟩:=h;have hA:dE N (J em ms.length cm) (J sJ rs.length cr) (J es sv.length sK) (J sL gw.length cg) (J eh wh.length ch)=#[Y nm,Y ct,J em ms.length cm,J sJ rs.length cr,J es sv.length sK,J sL gw.length cg,U O px,U O py,U O pz,U O ph,U O pq,J eh wh.length ch]:=by rw[hN]
 simp only[hA] at ny ⊢;clear hA hN HN R9;simp only at Si;generalize ms.length=km at *;generalize rs.length=kr at *;generalize sv.length=ks at *;generalize gw.length=kg at *;generalize wh.length=kh at *;obtain⟨W0,bP,bK,fj,yf,dt,hy0,ht0⟩:=Xc w #[Y nm,Y ct,J em km cm,J sJ kr cr,J es ks sK,J sL kg cg,U O px,U O py,U O pz,U O ph,U O pq,J eh kh ch] #[Y ⟨#[]⟩,Y ⟨#[]⟩,J be 0 0,J be 0 0,J be 0 0,J be 0 0,U O 0,U O 0,U O 0,U O 0,U O 0,J be 0 0] #[Y ⟨#[]⟩,Ia false,J be 0 0,J be 0 0,J be 0 0,J be 0 0] #[Y ⟨#[]⟩,Ia false,J be 0 0,J be 0 0,J be 0 0,J be 0 0] 50 50 61 61;have tB:=ny.out W0 bK fj ht0;have df:Hid _:=bK;have pC:Hid _:=dt;have HY0:Hid _:=hy0;have HT0:Hid _:=ht0;clear bK dt hy0 ht0 yf ny;go_enter Tryz.func19,Tryz.ntmps19;go_wp2_with fail;rw[<- bP];refine tB.mono ?_;rintro e w1 ⟨Ck,Ra⟩;have fO:w.heap.size+4<=w1.heap.size:=by have:=Ck.size;omega
 have aZ:Hid _:=df.out.trans (Ck.below (by omega) (λk hk=>by omega));have Lz:Hid _:=(Ck.block _ (by omega) (by omega)).trans pC.out;have HY1:Hid _:=(Ck.block _ (by omega) (by omega)).trans HY0.out;clear Ck tB bP;obtain⟨u0,u1,b2,m2,e2,b3,m3,e3,b4,m4,e4,b5,m5,e5,u6,u7,u8,u9,u10,b11,m11,e11,r,s0,ta,tk,tc,rfl,HT1,vf⟩:∃u0 u1 b2 m2 e2 b3 m3 e3 b4 m4 e4 b5 m5 e5 u6 u7 u8 u9 u10 b11 m11 e11 r s0 ta tk tc,e=AT (Ip #[Ik #[Y u0,Y u1,J b2 m2 e2,J b3 m3 e3,J b4 m4 e4,J b5 m5 e5,U O u6,U O u7,U O u8,U O u9,U O u10,J b11 m11 e11],U O r])/\Hid (w1.heap[w.heap.size+3]?=AI (By #[Y s0,Ia false,J ta tk tc,J be 0 0,J be 0 0,J be 0 0] 61 (0,0)))/\Hid (∀WF:World,Below w.heap.size w WF->(∀{base n k:Nat} {T:Ja} {v:Value} {xs:List Value},w.heap.size+1+1<base->w1.ownsRow base T k v n xs->WF.ownsRow base T k v n xs)->oG N ne w (AT (Ip #[Ik #[Y u0,Y u1,J b2 m2 e2,J b3 m3 e3,J b4 m4 e4,J b5 m5 e5,U O u6,U O u7,U O u8,U O u9,U O u10,J b11 m11 e11],Ik #[Y s0,Ia false,J ta tk tc,J be 0 0,J be 0 0,J be 0 0],U O r])) WF):=by
  rcases Ra with⟨aP,xK,rfl⟩|⟨_,Bh,_⟩|⟨aP,_,n',um,ur,us,ug,uw,rfl,hown,gP,ta,tk,tc,l,hn',hT,pQ,Vy⟩
  .exact⟨_,_,_,_,_,_,_,_,_,_,_,_,_,_,_,_,_,_,_,_,_,_,_,_,_,_,_,rfl,(xK.block _ (by omega)).trans HT0.out,λWF hb _=>⟨hb,.inl ⟨aP,rfl⟩⟩⟩
  .exact absurd rfl Bh
  .have hf:∀WF:World,(∀{base n k:Nat} {T:Ja} {v:Value} {xs:List Value},w.heap.size+1+1<base->w1.ownsRow base T k v n xs->WF.ownsRow base T k v n xs)->cZ w.heap.size WF n' um ur us ug uw/\Own w.heap.size WF (J ta tk tc) l:=λWF how=>⟨⟨Own.mono (how (by omega) hown.ms) (by omega),cV.base (how (by omega) hown.rs) (by omega),Sv.Own.mono (how (by omega) hown.sv) (by omega),Gw.Own.mono (how (by omega) hown.gw) (by omega),Wh.Own.mono (how (by omega) hown.wh) (by omega)⟩,Own.mono (how (by omega) Vy) (by omega)⟩
   obtain⟨im2,jm2,ou,_⟩:=aE hown.ms;obtain⟨ir2,jr2,vc,_⟩:=aE hown.rs;obtain⟨is2,js2,tS,_⟩:=aE hown.sv;obtain⟨ig2,jg2,zk,_⟩:=aE hown.gw;obtain⟨ih2,jh2,GV,_⟩:=aE hown.wh;subst ou vc tS zk GV;exact⟨_,_,_,_,_,_,_,_,_,_,_,_,_,_,_,_,_,_,_,_,_,_,_,_,ta,tk,tc,rfl,pQ,λWF hb how=>⟨hb,.inr ⟨aP,n',_,_,_,_,_,ta,tk,tc,l,rfl,hn',hT,(hf WF how).1,gP,(hf WF how).2⟩⟩⟩
 clear Ra;obtain⟨W5,iF,j9,-,mc⟩:=bV w1 #[Y u0,Y u1,J b2 m2 e2,J b3 m3 e3,J b4 m4 e4,J b5 m5 e5,U O u6,U O u7,U O u8,U O u9,U O u10,J b11 m11 e11] 50;have jV:=(j9.block _ (by omega)).trans Lz.out;have hy5:=(j9.block _ (by omega)).trans HY1.out;have ht5:=(j9.block _ (by omega)).trans HT1.out;have MD:w1.heap.size<W5.heap.size:=by rw[iF];simp
 have jd:Hid _:=aZ.out.trans (j9.mono aZ.out.size);have HZ5:Hid _:=jV;have HY5:Hid _:=hy5;have acx:Hid _:=j9;obtain⟨p0,p1,p2,p3,p4,p5,p6,p7,p8,p9,p10,p11⟩:=bQ mc;obtain⟨q0,q1,q2,q3,q4,q5,q6,q7,q8,q9,q10,q11⟩:=bQ jV;obtain⟨xX,xY,zd,ze,zh,zi,Fc,Fe,Ff,Fg,rH,rI⟩:=kR jV;obtain⟨r0,r1,r2,r3,r4,r5⟩:=fX hy5;obtain⟨rz0,rz1,rz2,rz3,rz4,rz5⟩:=MB hy5;obtain⟨t0,t1,t2,t3,t4,t5⟩:=fX ht5;clear j9 mc jV hy5 ht5;have Xh:w.heap.size+1≠w1.heap.size:=by omega
 have Xi:w.heap.size+2≠w1.heap.size:=by omega
 have ne3:w.heap.size+1≠w.heap.size+3:=by omega
 have ne4:w.heap.size+2≠w.heap.size+3:=by omega
 go_upto_region 3 with fail
 rw[<- iF];clear iF;go_region_held3 (λw'=>w'.cell? ⟨w1.heap.size,0,be⟩=AI (Y u0)/\w'.cell? ⟨w1.heap.size,1,be⟩=AI (Y u1)/\w'.cell? ⟨w1.heap.size,2,be⟩=AI (J b2 m2 e2)/\w'.cell? ⟨w1.heap.size,3,be⟩=AI (J b3 m3 e3)/\w'.cell? ⟨w1.heap.size,4,be⟩=AI (J b4 m4 e4)/\w'.cell? ⟨w1.heap.size,5,be⟩=AI (J b5 m5 e5)/\w'.cell? ⟨w1.heap.size,6,be⟩=AI (U O u6)/\w'.cell? ⟨w1.heap.size,7,be⟩=AI (U O u7)/\w'.cell? ⟨w1.heap.size,8,be⟩=AI (U O u8)/\w'.cell? ⟨w1.heap.size,9,be⟩=AI (U O u9)/\w'.cell? ⟨w1.heap.size,10,be⟩=AI (U O u10)/\w'.cell? ⟨w1.heap.size,11,be⟩=AI (J b11 m11 e11)/\w'.cell? ⟨w.heap.size+3,0,be⟩=AI (Y s0)/\w'.cell? ⟨w.heap.size+3,1,be⟩=AI (Ia false)/\w'.cell? ⟨w.heap.size+3,2,be⟩=AI (J ta tk tc)/\w'.cell? ⟨w.heap.size+3,3,be⟩=AI (J be 0 0)/\w'.cell? ⟨w.heap.size+3,4,be⟩=AI (J be 0 0)/\w'.cell? ⟨w.heap.size+3,5,be⟩=AI (J be 0 0)) (simp only[World.cell?_setCell_far,World.cell?_drew,ne_eq,Xh,Xi,ne3,ne4,not_false_eq_true,p0,p1,p2,p3,p4,p5,p6,p7,p8,p9,p10,p11,t0,t1,t2,t3,t4,t5,and_self]) (fail)
 all_goals go_wp2_with fail
 all_goals
  clear q0 xX q1 xY q2 zd q3 ze q4 zh q5 zi q6 Fc q7 Fe q8 Ff q9 Fg q10 rH q11 rI r0 rz0 r1 rz1 r2 rz2 r3 rz3 r4 rz4 r5 rz5 p0 p1 p2 p3 p4 p5 p6 p7 p8 p9 p10 p11 t0 t1 t2 t3 t4 t5;first
  |(obtain⟨WF,Xw⟩:∃WF,WF=World.drew ((((((((((((((((((W5.setCell ⟨w.heap.size+1,0,be⟩ (Y u0)).setCell ⟨w.heap.size+1,1,be⟩ (Y u1)).setCell ⟨w.heap.size+1,2,be⟩ (J b2 m2 e2)).setCell ⟨w.heap.size+1,3,be⟩ (J b3 m3 e3)).setCell ⟨w.heap.size+1,4,be⟩ (J b4 m4 e4)).setCell ⟨w.heap.size+1,5,be⟩ (J b5 m5 e5)).setCell ⟨w.heap.size+1,6,be⟩ (U O u6)).setCell ⟨w.heap.size+1,7,be⟩ (U O u7)).setCell ⟨w.heap.size+1,8,be⟩ (U O u8)).setCell ⟨w.heap.size+1,9,be⟩ (U O u9)).setCell ⟨w.heap.size+1,10,be⟩ (U O u10)).setCell ⟨w.heap.size+1,11,be⟩ (J b11 m11 e11)).setCell ⟨w.heap.size+1+1,0,be⟩ (Y s0)).setCell ⟨w.heap.size+1+1,1,be⟩ (Ia false)).setCell ⟨w.heap.size+1+1,2,be⟩ (J ta tk tc)).setCell ⟨w.heap.size+1+1,3,be⟩ (J be 0 0)).setCell ⟨w.heap.size+1+1,4,be⟩ (J be 0 0)).setCell ⟨w.heap.size+1+1,5,be⟩ (J be 0 0)):=⟨_,rfl⟩
    rw[<- Xw];have NK:WF=World.drew (aF (w.heap.size+1+1) [Y s0,Ia false,J ta tk tc,J be 0 0,J be 0 0,J be 0 0] 0 (aF (w.heap.size+1) [Y u0,Y u1,J b2 m2 e2,J b3 m3 e3,J b4 m4 e4,J b5 m5 e5,U O u6,U O u7,U O u8,U O u9,U O u10,J b11 m11 e11] 0 W5)):=by rw[Xw];simp only[aF,ID,Jn]
    clear Xw;have hz:WF.heap[w.heap.size+1]?=AI (By #[Y u0,Y u1,J b2 m2 e2,J b3 m3 e3,J b4 m4 e4,J b5 m5 e5,U O u6,U O u7,U O u8,U O u9,U O u10,J b11 m11 e11] 50 (0,0)):=by rw[NK];rw[dS,bc (by omega)];exact(mw HZ5.out _ _ _ _ _ _ _ _ _ _ _ _)
    have hy:WF.heap[w.heap.size+1+1]?=AI (By #[Y s0,Ia false,J ta tk tc,J be 0 0,J be 0 0,J be 0 0] 61 (0,0)):=by rw[NK];rw[dS];exact rU ((bc (by omega) _ _ _).trans HY5.out) _ _ _ _ _ _
    have tL:Hid (Below w.heap.size w WF):=by rw[NK];exact cQ (aU (by omega) _ _ (aU (by omega) _ _ jd.out))
    have CM:Hid (∀{base n k:Nat} {T:Ja} {v:Value} {xs:List Value},w.heap.size+1+1<base->w1.ownsRow base T k v n xs->WF.ownsRow base T k v n xs):=λhbs h=>by rw[NK];exact yi (cP (by omega) _ _ (cP (by omega) _ _ (vA h acx.out)))
    clear NK)
  |(obtain⟨WF,Xw⟩:∃WF,WF=World.drew ((((((((((((((((((W5.setCell ⟨w.heap.size+1+1,0,be⟩ (Y s0)).setCell ⟨w.heap.size+1+1,1,be⟩ (Ia false)).setCell ⟨w.heap.size+1+1,2,be⟩ (J ta tk tc)).setCell ⟨w.heap.size+1+1,3,be⟩ (J be 0 0)).setCell ⟨w.heap.size+1+1,4,be⟩ (J be 0 0)).setCell ⟨w.heap.size+1+1,5,be⟩ (J be 0 0)).setCell ⟨w.heap.size+1,0,be⟩ (Y u0)).setCell ⟨w.heap.size+1,1,be⟩ (Y u1)).setCell ⟨w.heap.size+1,2,be⟩ (J b2 m2 e2)).setCell ⟨w.heap.size+1,3,be⟩ (J b3 m3 e3)).setCell ⟨w.heap.size+1,4,be⟩ (J b4 m4 e4)).setCell ⟨w.heap.size+1,5,be⟩ (J b5 m5 e5)).setCell ⟨w.heap.size+1,6,be⟩ (U O u6)).setCell ⟨w.heap.size+1,7,be⟩ (U O u7)).setCell ⟨w.heap.size+1,8,be⟩ (U O u8)).setCell ⟨w.heap.size+1,9,be⟩ (U O u9)).setCell ⟨w.heap.size+1,10,be⟩ (U O u10)).setCell ⟨w.heap.size+1,11,be⟩ (J b11 m11 e11)):=⟨_,rfl⟩
    rw[<- Xw];have NK:WF=World.drew (aF (w.heap.size+1) [Y u0,Y u1,J b2 m2 e2,J b3 m3 e3,J b4 m4 e4,J b5 m5 e5,U O u6,U O u7,U O u8,U O u9,U O u10,J b11 m11 e11] 0 (aF (w.heap.size+1+1) [Y s0,Ia false,J ta tk tc,J be 0 0,J be 0 0,J be 0 0] 0 W5)):=by rw[Xw];simp only[aF,ID,Jn]
    clear Xw;have hz:WF.heap[w.heap.size+1]?=AI (By #[Y u0,Y u1,J b2 m2 e2,J b3 m3 e3,J b4 m4 e4,J b5 m5 e5,U O u6,U O u7,U O u8,U O u9,U O u10,J b11 m11 e11] 50 (0,0)):=by rw[NK];rw[dS];exact mw ((bc (by omega) _ _ _).trans HZ5.out) _ _ _ _ _ _ _ _ _ _ _ _
    have hy:WF.heap[w.heap.size+1+1]?=AI (By #[Y s0,Ia false,J ta tk tc,J be 0 0,J be 0 0,J be 0 0] 61 (0,0)):=by rw[NK];rw[dS,bc (by omega)];exact(rU HY5.out _ _ _ _ _ _)
    have tL:Hid (Below w.heap.size w WF):=by rw[NK];exact cQ (aU (by omega) _ _ (aU (by omega) _ _ jd.out))
    have CM:Hid (∀{base n k:Nat} {T:Ja} {v:Value} {xs:List Value},w.heap.size+1+1<base->w1.ownsRow base T k v n xs->WF.ownsRow base T k v n xs):=λhbs h=>by rw[NK];exact yi (cP (by omega) _ _ (cP (by omega) _ _ (vA h acx.out)))
    clear NK)
  obtain⟨q0,q1,q2,q3,q4,q5,q6,q7,q8,q9,q10,q11⟩:=bQ hz;obtain⟨r0,r1,r2,r3,r4,r5⟩:=fX hy;exact IL (v:=Ip #[Ik #[Y u0,Y u1,J b2 m2 e2,J b3 m3 e3,J b4 m4 e4,J b5 m5 e5,U O u6,U O u7,U O u8,U O u9,U O u10,J b11 m11 e11],Ik #[Y s0,Ia false,J ta tk tc,J be 0 0,J be 0 0,J be 0 0],U O r]) (by simp[results,Tryz.results19,go_sem,q0,q1,q2,q3,q4,q5,q6,q7,q8,q9,q10,q11,r0,r1,r2,r3,r4,r5]) rfl (vf.out _ tL.out CM.out)
end Go.Proofs.YtbfghimjdlpicaaGreatDoor
