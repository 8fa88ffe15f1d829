import Derived.Test.YtfidjlcdlakceaaGreatDoortf1
import Derived.Shelf.Slices.Turned
import Derived.Shelf.SlicesE.DeleteFunc
import Derived.Deep.RegionHeld3
import Derived.Shelf.Utf8.RuneCount
import Derived.Shelf.Strings.Explode
import Derived.Shelf.Unicode.DecodeAny
import Derived.Shelf.Slices.Clone
import Derived.Shelf.Slices.SearchI
import Derived.Shelf.SlicesE.Clone
import Derived.Lib.SmallJoins
set_option maxHeartbeats 3200000
set_option maxRecDepth 100000
open Go.Value renaming string→I,slice→U,int→O,bool→AI,agg→Im,tuple→Il,pointer→If,ownBlock→I2
open Option renaming some→Z,none→Y
open Array renaming getElem?_eq_some_iff→Ia
open List renaming length_append→Ii,mem_map→QH,getD→Io,getElem?_eq_getElem→Ic,take_length→OC,length_map→Oy,getElem?_eq_some_iff→Jg,mem_cons_self→JO,mem_cons_of_mem→Oj,length_cons→IY,mem_append→JU,mem_singleton→J1,length_singleton→JB,append_assoc→I1,map_cons→OU,map_nil→Ud,all_eq_true→J5,getElem_mem→IV,getElem?_eq_none→IP,mem_of_mem_take→Jm,length_take→Iu,take_of_length_le→IS,length_drop→Jr,nil_append→Qr,cons_append→OQ
open ByteArray renaming empty→Ih,mk→JZ
open Go.Shelf renaming Ren→Oq
open Go.Proofs.Tryz renaming prog→be,underlying0→J6,isAgg0→O6,sizeOf0→OP,zeroValue0→Oh,underlying3→IG,isAgg3→J0,sizeOf3→JN,zeroValue3→JR,underlying4→Jq,isAgg4→Ou,sizeOf4→Og,zeroValue4→JS,underlying9→IE,isAgg9→Ob,sizeOf9→JX,zeroValue9→J3,underlying111→Jt,isAgg111→QU,sizeOf111→QC,zeroValue111→O4,underlying127→JQ,underlying126→UE,underlying5→Js,isAgg5→Qm,sizeOf5→O5,zeroValue5→Ov,underlying192→Oz,isAgg192→Qy,sizeOf192→Qf,zeroValue192→OG,underlying260→OA,isAgg260→Qz,sizeOf260→Qg,zeroValue260→OH,underlying294→Uy
open Go.Ending renaming returned→sh
open Go.IntKind renaming i64→J,wrap_i64→IK
open Go.Obj renaming cells→AT
open Go renaming maxLen→Ij,TypeId→Jc,heap_alloc_new→Ie,bodyPost→Jk,bodyPost_ret→Ix
open Nat renaming le_refl→By,zero_add→IM,le_trans→Ir,le_of_lt→J8,lt_of_lt_of_le→Iv,not_lt_zero→Ji
open Go.RowKit.Below renaming refl→Ib,heap_setCell→IB
open Bool renaming and_eq_true→IJ,or_eq_true→O2,or_eq_false_iff→Ug
open Go.Sort renaming ahead→QZ
open Go.Lib renaming indexByte→JG,alloc_old→I9,strCells→Oi,idxByFrom→OW
namespace Go.Proofs.YtfidjlcdlakceaaGreatDoor
open Go.RowKit
theorem Tryz.yz:(Tryz.prog.info? 9).map (λi=>(i.zero,i.size,i.bytes))=Z (Z (I ⟨#[]⟩),1,16):=by kernel_rfl
abbrev dC(base:Nat)(w:World)(v:Value)(l:List ByteArray):Prop:=w.ownsRow base 9 1 v l.length (l.map I)
theorem qw(base:Nat)(w:World):dC base w (U Y 0 0) []:=World.ownsRow_nil w base 9 1
theorem dC.below{base:Nat}{w w':World}{v:Value}{l:List ByteArray}(h:dC base w v l)(hb:Below w.heap.size w w'):dC base w' v l:=by
 rcases h.2 with⟨rfl,h0⟩|⟨g,c,cur,rfl,dQ,hg,eC,dj,cM,aO⟩
 .exact⟨h.1,.inl ⟨rfl,h0⟩⟩
 .have aL:g<w.heap.size:=(Ia.1 hg).1
  exact⟨h.1,.inr ⟨g,c,cur,rfl,dQ,(hb.block g aL).trans hg,eC,dj,cM,aO⟩⟩
theorem dC.lt{base:Nat}{w:World}{v:Value}{l:List ByteArray}(h:dC base w v l)(k:Nat)(hk:v.ownBlock=Z k):base<=k/\k<w.heap.size:=World.ownsRow.lt h k hk
theorem oo{base:Nat}{w:World}{v:Value}{l:List ByteArray}{s:ByteArray}(h:w.ownsRow base 9 1 v (l.length+1) (l.map I++[I s])):dC base w v (l++[s]):=by
 show w.ownsRow base 9 1 v (l++[s]).length ((l++[s]).map I);rw[Ii,List.map_append];exact h
theorem o8(ss:List ByteArray):∀v∈ss.map I,v.oneCell'=true:=by
 intro v hv;obtain⟨s,_,rfl⟩:=QH.1 hv;rfl
theorem dC.form{base:Nat}{w:World}{v:Value}{l:List ByteArray}(h:dC base w v l):(v=U Y 0 0/\l=[])\/∃g c,v=U (Z ⟨g,0,Y⟩) l.length c/\l.length<=c/\base<=g/\g<w.heap.size/\∀j,j<l.length->w.cell? ⟨g,j,Y⟩=Z (I (l.getD j Ih)):=by
 rcases h.2 with⟨hv,h0⟩|⟨g,c,cur,hv,dQ,hg,eC,_⟩
 .exact .inl ⟨hv,List.length_eq_zero_iff.1 h0⟩
 .refine .inr ⟨g,c,hv,eC,dQ,(Ia.1 hg).1,λj hj=>?_⟩
  subst hv;rw[World.ownsRow.cellAt h j (by omega)];simp[Io,Ic hj]
end Go.Proofs.YtfidjlcdlakceaaGreatDoor
namespace Go.Proofs
open Go.Shelf
def Tryz.rX:Oq:=⟨fun|156=>62|165=>116|166=>117|169=>75|240=>167|241=>168|276=>231|277=>232|n=>n,fun|31=>111|9=>9|3=>3|4=>4|0=>0|20=>20|72=>129|76=>177|70=>126|37=>127|75=>176|127=>186|164=>274|5=>5|80=>132|n=>n,fun|n=>n⟩
theorem Tryz.VW:Go.Proofs.Lays.n156 be Tryz.rX:={
 mixed:=by kernel_rfl
 f156:=Tryz.func62.trans (congrArg Z (by kernel_rfl))
 f165:=Tryz.func116.trans (congrArg Z (by kernel_rfl))
 f166:=Tryz.func117.trans (congrArg Z (by kernel_rfl))
 f169:=Tryz.func75.trans (congrArg Z (by kernel_rfl))
 f240:=Tryz.func167.trans (congrArg Z (by kernel_rfl))
 f241:=Tryz.func168.trans (congrArg Z (by kernel_rfl))
 f276:=Tryz.func231.trans (congrArg Z (by kernel_rfl))
 f277:=Tryz.func232.trans (congrArg Z (by kernel_rfl))
 t0:=J6
 a0:=O6
 z0:=OP
 v0:=Oh
 t3:=IG
 a3:=J0
 z3:=JN
 v3:=JR
 t4:=Jq
 a4:=Ou
 z4:=Og
 v4:=JS
 t9:=IE
 a9:=Ob
 z9:=JX
 v9:=J3
 t20:=Tryz.underlying20
 a20:=Tryz.isAgg20
 z20:=Tryz.sizeOf20
 v20:=Tryz.zeroValue20
 t31:=Jt
 a31:=QU
 z31:=QC
 v31:=O4
 t37:=JQ
 a37:=Tryz.isAgg127
 z37:=Tryz.sizeOf127
 v37:=Tryz.zeroValue127
 t70:=UE
 a70:=Tryz.isAgg126
 z70:=Tryz.sizeOf126
 v70:=Tryz.zeroValue126
 t72:=Tryz.underlying129
 a72:=Tryz.isAgg129
 z72:=Tryz.sizeOf129
 v72:=Tryz.zeroValue129
 t75:=Tryz.underlying176
 a75:=Tryz.isAgg176
 z75:=Tryz.sizeOf176
 v75:=Tryz.zeroValue176
 t76:=Tryz.underlying177
 a76:=Tryz.isAgg177
 z76:=Tryz.sizeOf177
 v76:=Tryz.zeroValue177
 t127:=Tryz.underlying186
 a127:=Tryz.isAgg186
 z127:=Tryz.sizeOf186
 v127:=Tryz.zeroValue186
 t164:=Tryz.underlying274
 a164:=Tryz.isAgg274
 z164:=Tryz.sizeOf274
 v164:=Tryz.zeroValue274 }
theorem Tryz.pQ:Builder.Extra be Tryz.rX:={
 sizeBuilder:=by kernel_rfl
 liesBuilder:=by kernel_rfl
 t5:=Js
 a5:=Qm
 z5:=O5
 v5:=Ov
 infoByte:=by kernel_rfl
 cellsByte:=by kernel_rfl
 sizeByte:=by kernel_rfl
 neB5:=by decide }
open Go.RowKit in
theorem Tryz.strings_Join(bk o c:Nat)(xs:List ByteArray)(sep:ByteArray)(w:World)(abS:∀(j:Nat) x,xs[j]?=Z x->w.cell? ⟨bk,o+j,Y⟩=Z (I x))(wF:bk<w.heap.size)(hN:xs.length<=140737488355328)(NH:xs.length<=c)(hlen:(Lib.join (xs.map (·.data.toList)) sep.data.toList).length<=140737488355328) :
 Calls be 62 #[U (Z ⟨bk,o,Y⟩) xs.length c,I sep] w λe w'=>e=sh (I ⟨(Lib.join (xs.map (·.data.toList)) sep.data.toList).toArray⟩)/\Below w.heap.size w w':=Any.strings_Join Tryz.VW Tryz.pQ bk o c xs sep w abS wF hN NH hlen
def Tryz.Cd:Oq:=⟨fun|146=>57|221=>111|268=>165|138=>67|143=>122|195=>120|197=>230|218=>121|219=>170|260=>260|217=>233|225=>234|224=>235|267=>236|266=>261|314=>262|n=>n,fun|9=>9|31=>111|3=>3|4=>4|0=>0|105=>272|21=>21|5=>5|46=>192|119=>315|139=>318|138=>317|146=>294|51=>260|n=>n,fun|1=>0|3=>1|4=>2|n=>n⟩
theorem Tryz.VX:Go.Proofs.Lays.n146 be Tryz.Cd:={
 mixed:=by kernel_rfl
 f138:=Tryz.func67.trans (congrArg Z (by kernel_rfl))
 f143:=Tryz.func122.trans (congrArg Z (by kernel_rfl))
 f146:=Tryz.func57.trans (congrArg Z (by kernel_rfl))
 f195:=Tryz.func120.trans (congrArg Z (by kernel_rfl))
 f197:=Tryz.func230.trans (congrArg Z (by kernel_rfl))
 f217:=Tryz.func233.trans (congrArg Z (by kernel_rfl))
 f218:=Tryz.func121.trans (congrArg Z (by kernel_rfl))
 f219:=Tryz.func170.trans (congrArg Z (by kernel_rfl))
 f221:=Tryz.func111.trans (congrArg Z (by kernel_rfl))
 f224:=Tryz.func235.trans (congrArg Z (by kernel_rfl))
 f225:=Tryz.func234.trans (congrArg Z (by kernel_rfl))
 f260:=Tryz.func260.trans (congrArg Z (by kernel_rfl))
 f266:=Tryz.func261.trans (congrArg Z (by kernel_rfl))
 f267:=Tryz.func236.trans (congrArg Z (by kernel_rfl))
 f268:=Tryz.func165.trans (congrArg Z (by kernel_rfl))
 f314:=Tryz.func262.trans (congrArg Z (by kernel_rfl))
 t0:=J6
 a0:=O6
 z0:=OP
 v0:=Oh
 t3:=IG
 a3:=J0
 z3:=JN
 v3:=JR
 t4:=Jq
 a4:=Ou
 z4:=Og
 v4:=JS
 t5:=Js
 a5:=Qm
 z5:=O5
 v5:=Ov
 t9:=IE
 a9:=Ob
 z9:=JX
 v9:=J3
 t21:=Tryz.underlying21
 a21:=Tryz.isAgg21
 z21:=Tryz.sizeOf21
 v21:=Tryz.zeroValue21
 t31:=Jt
 a31:=QU
 z31:=QC
 v31:=O4
 t46:=Oz
 a46:=Qy
 z46:=Qf
 v46:=OG
 t51:=OA
 a51:=Qz
 z51:=Qg
 v51:=OH
 t105:=Tryz.underlying272
 a105:=Tryz.isAgg272
 z105:=Tryz.sizeOf272
 v105:=Tryz.zeroValue272
 t119:=Tryz.underlying315
 a119:=Tryz.isAgg315
 z119:=Tryz.sizeOf315
 t138:=Tryz.underlying317
 a138:=Tryz.isAgg317
 z138:=Tryz.sizeOf317
 v138:=Tryz.zeroValue317
 t139:=Tryz.underlying318
 a139:=Tryz.isAgg318
 z139:=Tryz.sizeOf318
 v139:=Tryz.zeroValue318
 t146:=Uy
 a146:=Tryz.isAgg294
 z146:=Tryz.sizeOf294
 v146:=Tryz.zeroValue294
 g1:=by kernel_rfl
 g3:=by kernel_rfl
 g4:=by kernel_rfl }
open Go.RowKit Go.Lib in
theorem Tryz.strings_Split(s sep:ByteArray)(m:Int)(w:World)(hs:s.size<4294967281)(hm:w.cell? ⟨0,0,Y⟩=Z (O J m))(h1:1<=sep.size) :
 Calls be 57 #[I s,I sep] w λe w'=>
  e=sh (U (Z ⟨w.heap.size,0,Y⟩) (Lib.countB s sep+1) (Lib.countB s sep+1))/\w'=w.alloc (AT ((Lib.splitB sep 0 (Lib.countB s sep) s).map I).toArray 9):=Any.strings_Split Tryz.VX (by kernel_rfl) s sep m w hs hm h1
def Tryz.Ce:Oq:=⟨fun|110=>115|109=>166|n=>n,fun|31=>111|9=>9|4=>4|3=>3|0=>0|n=>n,fun|n=>n⟩
theorem Tryz.VY:Go.Proofs.Lays.n110 be Tryz.Ce:={
 mixed:=by kernel_rfl
 f109:=Tryz.func166.trans (congrArg Z (by kernel_rfl))
 f110:=Tryz.func115.trans (congrArg Z (by kernel_rfl))
 t0:=J6
 a0:=O6
 z0:=OP
 v0:=Oh
 t3:=IG
 a3:=J0
 z3:=JN
 v3:=JR
 t4:=Jq
 a4:=Ou
 z4:=Og
 v4:=JS
 t9:=IE
 a9:=Ob
 z9:=JX
 v9:=J3
 t31:=Jt
 a31:=QU
 z31:=QC
 v31:=O4 }
open Go.Lib in
theorem Tryz.slices_Contains_string(b off n c:Nat)(zs:List ByteArray)(x:ByteArray)(w:World)(hz:n<=zs.length)(wI:n<=9223372036854775807)(hc:∀j,j<zs.length->w.cell? ⟨b,off+j,Y⟩=Z (I (zs.getD j Ih))) :
 Calls be 115 #[U (Z ⟨b,off,Y⟩) n c,I x] w λe w'=>e=sh (AI (Lib.containsS (zs.take n) x))/\w'=w:=Any.slices_Contains_string Tryz.VY b off n c zs x w hz wI hc
end Go.Proofs
namespace Go.Proofs.YtfidjlcdlakceaaGreatDoor
open Go.RowKit
structure Qu where
 service:ByteArray
 tag:ByteArray
 node:ByteArray
 ai:ByteArray
def Qu.ok(q:Qu):Prop:=q.service.size<=Ij/\q.tag.size<=Ij/\q.node.size<=Ij/\q.ai.size<=Ij
abbrev eF:ByteArray:=⟨#[115,101,114,118,105,99,101]⟩
abbrev eG:ByteArray:=⟨#[110,111,100,101]⟩
abbrev gM:ByteArray:=⟨#[109,101,115,104]⟩
def ru(x:ByteArray):Bool:=Lib.containsS [eF,eG] x
def iH(x:ByteArray):Bool:=Lib.containsS [eF,eG,gM] x
def rY(q:Qu):Bool:=ru q.node||iH q.tag||iH q.service||iH q.ai
theorem Cf(x:ByteArray)(zs:List ByteArray)(g c:Nat)(w:World)(hn:zs.length<=1000)(hc:∀j,j<zs.length->w.cell? ⟨g,0+j,Y⟩=Z (I (zs.getD j Ih))) :
 Calls be 114 #[I x,U (Z ⟨g,0,Y⟩) zs.length c] w λe w'=>e=sh (AI (Lib.containsS zs x))/\w'=w:=by
 have HC:Hid (Calls be 115 #[U (Z ⟨g,0,Y⟩) zs.length c,I x] w λe w'=>e=sh (AI (Lib.containsS zs x))/\w'=w):=(show Calls _ _ _ _ _ by
  have h:=Tryz.slices_Contains_string g 0 zs.length c zs x w (By _) (by omega) hc
  rwa [OC] at h)
 clear hc;go_enter Tryz.func114,Tryz.ntmps114;go_wp2_with (go_at_call 115;refine HC.out.mono ?_;rintro e w' ⟨rfl,rfl⟩);go_ret;exact⟨rfl,rfl⟩
theorem oK(W:World){cs:Array Value}{t:Jc}{g:Nat}(hg:g=W.heap.size):(W.alloc (AT cs t)).heap[g]?=Z (AT cs t (0,0)):=by
 subst hg;exact Ie W _
theorem aeR(x:ByteArray)(W:World)(g:Nat)(hg:W.heap[g]?=Z (AT #[I eF,I eG] 9 (0,0))) :
 Calls be 114 #[I x,U (Z ⟨g,0,Y⟩) 2 2] W λe w'=>e=sh (AI (ru x))/\w'=W:=
 Cf x [eF,eG] g 2 W (by simp) (λj hj=>by
  rw[af hg]
  match j,hj with
  |0,_=>rfl
  |1,_=>rfl)
theorem RI(x:ByteArray)(W:World)(g:Nat)(hg:W.heap[g]?=Z (AT #[I eF,I eG,I gM] 9 (0,0))) :
 Calls be 114 #[I x,U (Z ⟨g,0,Y⟩) 3 3] W λe w'=>e=sh (AI (iH x))/\w'=W:=
 Cf x [eF,eG,gM] g 3 W (by simp) (λj hj=>by
  rw[af hg]
  match j,hj with
  |0,_=>rfl
  |1,_=>rfl
  |2,_=>rfl)
theorem Cg(q:Qu)(w:World) :
 Calls be 60 #[Im #[I q.service,I q.tag,I q.node,I q.ai]] w λe w'=>e=sh (AI (rY q))/\Below w.heap.size w w':=by
 obtain⟨sv,tg,nd,ce⟩:=q;have HW:Hid (rY ⟨sv,tg,nd,ce⟩=(ru nd||iH tg||iH sv||iH ce)):=rfl;generalize rY ⟨sv,tg,nd,ce⟩=r at *;have HT:Hid (ru nd=true->r=true):=λh=>by rw[HW.out,h];rfl
 have si:Hid (ru nd=false->iH tg=true->r=true):=λh h2=>by rw[HW.out,h,h2];rfl
 have HT3:Hid (ru nd=false->iH tg=false->iH sv=true->r=true):=λh h2 h3=>by rw[HW.out,h,h2,h3];rfl
 have HT4:Hid (ru nd=false->iH tg=false->iH sv=false->r=iH ce):=λh h2 h3=>by rw[HW.out,h,h2,h3];rfl
 clear HW;go_enter Tryz.func60,Tryz.ntmps60;go_wp2_with fail;refine(aeR _ _ _ (oK _ (by simp))).mono ?_;rintro e w' ⟨rfl,rfl⟩;rcases h1:ru nd with _|_
 .go_wp2_with fail
  refine(RI _ _ _ (oK _ (by simp))).mono ?_;rintro e w' ⟨rfl,rfl⟩;rcases h2:iH tg with _|_
  .go_wp2_with fail
   refine(RI _ _ _ (oK _ (by simp))).mono ?_;rintro e w' ⟨rfl,rfl⟩;rcases h3:iH sv with _|_
   .have HR:Hid (r=iH ce):=HT4.out h1 h2 h3
    go_wp2_with fail;refine(RI _ _ _ (oK _ (by simp))).mono ?_;rintro e w' ⟨rfl,rfl⟩;go_wp2_with fail;go_ret;refine⟨aD HR.out.symm,?_⟩;repeat(first|exact Ib _ _|refine Below.alloc ?_ (by simp<;>omega) _)
   .have HR:Hid (r=true):=HT3.out h1 h2 h3
    go_wp2_with fail;go_ret;refine⟨aD HR.out.symm,?_⟩;repeat(first|exact Ib _ _|refine Below.alloc ?_ (by simp<;>omega) _)
  .have HR:Hid (r=true):=si.out h1 h2
   go_wp2_with fail;go_ret;refine⟨aD HR.out.symm,?_⟩;repeat(first|exact Ib _ _|refine Below.alloc ?_ (by simp<;>omega) _)
 .have HR:Hid (r=true):=HT.out h1
  go_wp2_with fail;go_ret;refine⟨aD HR.out.symm,?_⟩;repeat(first|exact Ib _ _|refine Below.alloc ?_ (by simp<;>omega) _)
def yS(q:Qu):Bool:=(decide (q.service.size=0)==decide (q.node.size=0))||(decide (q.tag.size≠0)&&decide (q.service.size=0))
def fo(q:Qu):Int:=
 if yS q=true then 1 else if[q.service,q.tag,q.node,q.ai].all fF=false then 1 else if rY q=true then 7 else 0
theorem VZ(q:Qu)(W:World)(g:Nat)(hq:q.ok)(hg:W.heap[g]?=Z (AT #[I q.service,I q.tag,I q.node,I q.ai] 9 (0,0))) :
 Calls be 59 #[U (Z ⟨g,0,Y⟩) 4 4] W λe w'=>e=sh (AI ([q.service,q.tag,q.node,q.ai].all fF))/\w'=W:=
 rz [q.service,q.tag,q.node,q.ai] g 4 W (λj hj=>by
  rw[af hg]
  match j,hj with
  |0,_=>rfl
  |1,_=>rfl
  |2,_=>rfl
  |3,_=>rfl) (λj=>by
  match j with
  |0=>exact hq.1
  |1=>exact hq.2.1
  |2=>exact hq.2.2.1
  |3=>exact hq.2.2.2
  |_+4=>simp[Io]) (by simp)
theorem uq(q:Qu)(w:World)(hq:q.ok) :
 Calls be 23 #[Im #[I q.service,I q.tag,I q.node,I q.ai]] w λe w'=>e=sh (O J (fo q))/\Below w.heap.size w w':=by
 have HLB:Hid (∀g W,W.heap[g]?=Z (AT #[I q.service,I q.tag,I q.node,I q.ai] 9 (0,0))->Calls be 59 #[U (Z ⟨g,0,Y⟩) 4 4] W λe w'=>e=sh (AI ([q.service,q.tag,q.node,q.ai].all fF))/\w'=W):=λg W h=>VZ q W g hq h;have HWD:Hid (∀W,Calls be 60 #[Im #[I q.service,I q.tag,I q.node,I q.ai]] W λe w'=>e=sh (AI (rY q))/\Below W.heap.size W w'):=λW=>Cg q W;have kD:Hid (yS q=true->fo q=1):=λh=>by unfold fo;rw[if_pos h]
 have my:Hid (yS q=false->[q.service,q.tag,q.node,q.ai].all fF=false->fo q=1):=λh h2=>by unfold fo;rw[if_neg (by rw[h];simp),if_pos h2]
 have AH:Hid (yS q=false->[q.service,q.tag,q.node,q.ai].all fF=true->fo q=if rY q=true then 7 else 0):=λh h2=>by unfold fo;rw[if_neg (by rw[h];simp),if_neg (by rw[h2];simp)]
 have HF:Hid (yS q=((decide (q.service.size=0)==decide (q.node.size=0))||(decide (q.tag.size≠0)&&decide (q.service.size=0)))):=rfl;generalize[q.service,q.tag,q.node,q.ai].all fF=lb at *;generalize rY q=wb at *;generalize fo q=r at *;generalize yS q=fr at *;obtain⟨sv,tg,nd,ce⟩:=q;simp only at HLB HWD HF ⊢;clear hq;by_cases hs:sv.size=0<;>by_cases hn:nd.size=0<;>by_cases ht:tg.size=0;all_goals
  have wJ:=HF.out;simp only[hs,hn,ht,decide_true,decide_false,Bool.or_false,Bool.or_true,beq_self_eq_true,ne_eq,not_true_eq_false,not_false_eq_true,Bool.and_true,Bool.and_false] at wJ;clear HF;first|(have es:=cO hs;subst es)|(obtain⟨s1,s2⟩:=iY hs)
  first|(have en:=cO hn;subst en)|(obtain⟨n1,n2⟩:=iY hn)
  first|(have et:=cO ht;subst et)|(obtain⟨t1,t2⟩:=iY ht)
  clear hs hn ht;go_enter Tryz.func23,Tryz.ntmps23;go_wp2_with fail
 all_goals first
  |(go_ret
    exact⟨aj (kD.out wJ).symm,(Ib _ _).alloc (By _) _⟩)
  |(have zP:Hid (fr=false):=(show fr=false from wJ)
    clear wJ;refine(HLB.out _ _ (oK _ (by simp))).mono ?_;rintro e w' ⟨rfl,rfl⟩;rcases hl:lb with _|_
    .have HR:Hid (r=1):=my.out zP.out hl
     go_wp2_with fail;go_ret;exact⟨aj HR.out.symm,((Ib _ _).alloc (By _) _).alloc (by simp) _⟩
    .have HR:Hid (r=if wb=true then 7 else 0):=AH.out zP.out hl
     go_wp2_with fail;refine(HWD.out _).mono ?_;rintro e w1 ⟨rfl,al⟩;have aC:=al.size;simp at aC;rcases hw:wb with _|_
     .rw[hw] at HR
      go_wp2_with fail;go_ret;exact⟨aj HR.out.symm,(((Ib _ _).alloc (By _) _).alloc (by simp) _).trans (al.mono (by simp;omega))⟩
     .rw[hw] at HR
      go_wp2_with fail;go_ret;exact⟨aj HR.out.symm,(((Ib _ _).alloc (By _) _).alloc (by simp) _).trans (al.mono (by simp;omega))⟩)
theorem RJ(x:ByteArray):ru x=true↔x=eF\/x=eG:=by
 unfold ru;rw[Lib.containsS_iff];simp
theorem RM(x:ByteArray):iH x=true↔x=eF\/x=eG\/x=gM:=by
 unfold iH;rw[Lib.containsS_iff];simp
theorem EF{s:ByteArray}(l:List UInt8)(h:s≠mk l):(s.toList==l)=false/\¬ s.toList=l:=by
 have h2:¬ s.toList=l:=λe=>h (by rw[<- e,Lib.toList_data,mk_data]);exact⟨by simpa using h2,h2⟩
abbrev pR:List UInt8:=[115,101,114,118,105,99,101]
abbrev pS:List UInt8:=[110,111,100,101]
abbrev iK:List UInt8:=[109,101,115,104]
theorem V0{s:ByteArray}(h:s≠eF):(s.toList==[115,101,114,118,105,99,101])=false/\¬ s.toList=[115,101,114,118,105,99,101]:=EF pR h
theorem FP{s:ByteArray}(h:s≠eG):(s.toList==[110,111,100,101])=false/\¬ s.toList=[110,111,100,101]:=EF pS h
theorem V1{s:ByteArray}(h:s≠gM):(s.toList==[109,101,115,104])=false/\¬ s.toList=[109,101,115,104]:=EF iK h
def gB(s:ByteArray):List ByteArray:=if s.size=0 then[] else(gN s.data.toList).map mk
theorem xB(s:ByteArray):bT s=if(gB s).all aN=false then 1 else if 8<(gB s).length\/120<s.size then 2 else 0:=by
 unfold bT gB;by_cases h0:s.size=0
 .rw[if_pos h0,if_pos h0];simp[h0]
 .rw[if_neg h0,if_neg h0]
  have e:((gN s.data.toList).map mk).all aN=(gN s.data.toList).all jY:=by rw[List.all_map];rfl
  rw[e,Oy]
def bytes(s:ByteArray):List UInt8:=s.data.toList
def opt(s:ByteArray):List (List UInt8):=if s.size=0 then[] else[bytes s]
def uX(q:Qu):List (List UInt8):=
 if q.node.size=0 then opt q.tag++(opt q.service++([pR]++(opt q.ai++[iK]))) else opt q.node++([pS]++(opt q.ai++[iK]))
def prt(q:Qu):ByteArray:=mk (jn (uX q))
def jk(q:Qu):Int:=if fo q=0 then bT (prt q) else fo q
def iy(q:Qu):ByteArray:=if jk q=0 then prt q else⟨#[]⟩
theorem iv{s:ByteArray}(h:s.size≠0):opt s=[bytes s]:=if_neg h
theorem mT{s:ByteArray}(h:s.size=0):opt s=[]:=if_pos h
theorem kE{q:Qu}(h:fo q=0):yS q=false/\fF q.service=true/\fF q.tag=true/\fF q.node=true/\fF q.ai=true/\rY q=false:=by
 unfold fo at h;split at h
 .omega
 .rename_i h1
  split at h
  .omega
  .rename_i h2
   split at h
   .omega
   .rename_i h3
    have yA:[q.service,q.tag,q.node,q.ai].all fF=true:=by simpa using h2
    simp only[List.all_cons,List.all_nil,Bool.and_true,IJ] at yA;exact⟨by simpa using h1,yA.1,yA.2.1,yA.2.2.1,yA.2.2.2,by simpa using h3⟩
theorem fB{s:ByteArray}(h:fF s=true):s.size<=30:=by
 unfold fF at h;simp only[O2,decide_eq_true_eq] at h;rcases h with rfl|h
 .decide
 .unfold aN at h
  simp only[IJ,decide_eq_true_eq] at h;exact h.1.2
theorem Ch{w w1:World}{a b c d:Value}{t:Jc}(h:Below (w.alloc (AT #[a,b,c,d] t)).heap.size (w.alloc (AT #[a,b,c,d] t)) w1) :
 w1.cell? ⟨w.heap.size,0,Y⟩=Z a/\w1.cell? ⟨w.heap.size,1,Y⟩=Z b/\w1.cell? ⟨w.heap.size,2,Y⟩=Z c/\w1.cell? ⟨w.heap.size,3,Y⟩=Z d/\Hid (Below w.heap.size w w1)/\w.heap.size<w1.heap.size:=by
 have hg:w1.heap[w.heap.size]?=Z (AT #[a,b,c,d] t (0,0)):=(h.block _ (by simp)).trans (Ie w _);exact⟨af hg 0,af hg 1,af hg 2,af hg 3,((Ib _ _).alloc (By _) _).trans (h.mono (by simp)),(Ia.1 hg).1⟩
theorem th{a b:ByteArray}{x y:Int}(h1:a=b)(h2:x=y):Ending.returned (Il #[I a,O J x])=sh (Il #[I b,O J y]):=by rw[h1,h2]
theorem FQ{E:Int}{T S:ByteArray}(h:S=if E=0 then T else⟨#[]⟩)(h0:E=0):S=T:=by rw[h,if_pos h0]
end Go.Proofs.YtfidjlcdlakceaaGreatDoor
namespace Go.Proofs
open Go.Shelf
def Tryz.Ci:Oq:=⟨fun|10=>63|6=>113|n=>n,fun|22=>111|23=>9|25=>86|3=>3|4=>4|0=>0|n=>n,fun|n=>n⟩
theorem Tryz.ajv:Go.Proofs.SlLaysH.n10 be Tryz.Ci:={
 mixed:=by kernel_rfl
 f6:=⟨Tryz.f113.name,by decide,Tryz.func113.trans (congrArg Z (by kernel_rfl))⟩
 f10:=⟨Tryz.f63.name,by decide,Tryz.func63.trans (congrArg Z (by kernel_rfl))⟩
 t0:=J6
 a0:=O6
 z0:=OP
 v0:=Oh
 t3:=IG
 a3:=J0
 z3:=JN
 v3:=JR
 t4:=Jq
 a4:=Ou
 z4:=Og
 v4:=JS
 t22:=Jt
 a22:=QU
 z22:=QC
 v22:=O4
 a23:=Ob
 z23:=JX
 t25:=Tryz.underlying86
 a25:=Tryz.isAgg86
 z25:=Tryz.sizeOf86
 v25:=Tryz.zeroValue86 }
def Tryz.FR:Oq:=⟨fun|6=>113|n=>n,fun|22=>111|23=>9|25=>86|3=>3|0=>0|4=>4|n=>n,fun|n=>n⟩
theorem Tryz.ixS:Go.Proofs.SlLaysH.n6 be Tryz.FR:={
 mixed:=by kernel_rfl
 f6:=⟨Tryz.f113.name,by decide,Tryz.func113.trans (congrArg Z (by kernel_rfl))⟩
 t0:=J6
 a0:=O6
 z0:=OP
 v0:=Oh
 t3:=IG
 a3:=J0
 z3:=JN
 v3:=JR
 t4:=Jq
 a4:=Ou
 z4:=Og
 v4:=JS
 t22:=Jt
 a22:=QU
 z22:=QC
 v22:=O4
 a23:=Ob
 z23:=JX
 t25:=Tryz.underlying86
 a25:=Tryz.isAgg86
 z25:=Tryz.sizeOf86
 v25:=Tryz.zeroValue86 }
end Go.Proofs
namespace Go.Proofs.YtfidjlcdlakceaaGreatDoor
open Go.RowKit Go.Shelf Go.Lib Go.Sort
theorem rZ(x:ByteArray)(W:World):FnGives be 61 #[] #[I x] (AI (decide (x.size=0))) W:=by
 show Calls be 61 #[I x] W _;by_cases h:x.size=0
 .have e:=cO h
  subst e;go_enter Tryz.func61,Tryz.ntmps61;go_wp2_with fail;go_ret;exact⟨rfl,0,rfl⟩
 .obtain⟨n1,n2⟩:=iY h
  rw[show decide (x.size=0)=false by simpa using h];clear h;go_enter Tryz.func61,Tryz.ntmps61;go_wp2_with fail;go_ret;exact⟨rfl,0,rfl⟩
theorem aeS:∀w,(zeroValue 9).run be w=.ok (I (⟨#[]⟩:ByteArray)) w:=J3
theorem LL{α:Type}[Inhabited α](enc:α->Value)(w:World)(q VI off g:Nat)(d:Array α)(bu:g≠VI):(putRow enc (QZ w q) VI off d).heap[g]?=w.heap[g]?:=by
 show(w.heap.modify VI _)[g]?=_;rw[Array.getElem?_modify,if_neg (Ne.symm bu)]
theorem LM{α:Type}[Inhabited α](enc:α->Value)(w:World)(q VI off B:Nat)(d:Array α)(hB:B<=VI):Below B w (putRow enc (QZ w q) VI off d):=
 ⟨rfl,rfl,rfl,by simp[QZ],λk hk=>LL enc w q VI off k d (by omega)⟩
theorem pT:∀(xs:List (List UInt8)),Lib.join xs [46]=jn xs
 |[]=>rfl
 |[x]=>by simp[Lib.join,jn]
 |x::y::r=>by
  have ih:=pT (y::r);simp[Lib.join,jn] at ih ⊢;first|exact ih|simp[ih]
theorem xU(xs:List ByteArray)(w:World)(g:Nat)(hg:w.heap[g]?=Z (AT (xs.map I).toArray 9 (0,0)))(hn:xs.length<=10)(hz:(jn ((xs.filter λx => !decide (x.size=0)).map bytes)).length<=1000) :
 Calls be 24 #[U (Z ⟨g,0,Y⟩) xs.length xs.length] w λe w'=>e=sh (I (mk (jn ((xs.filter λx => !decide (x.size=0)).map bytes))))/\Below g w w':=by
 have eg:∀args w,(callFunc 61 args).run be w=.ok (.enter 61 args) w:=enters_of Tryz.func61 (by kernel_rfl) rfl;have aL:g<w.heap.size:=(Ia.1 hg).1;have hH:Holds I w g 0 xs.toArray:=λj hj=>by
  have vy:j<xs.length:=by simpa using hj
  refine⟨?_,?_⟩
  .rw[IM,af hg]
   simp[vy]
  .simp[World.frozen?,hg]
 have jH:=AnyE.slices_DeleteFunc (P:=be) (ρ:=Tryz.Ci) Tryz.ajv I (λ_=>rfl) (λx:ByteArray=>decide (x.size=0)) 61 #[] eg ⟨#[]⟩ aeS g 0 xs.length xs.toArray w (λW x _=>rZ x W) (λn os dk x _=>rZ x _) hH (by simp;omega) (by simp);change Calls be 63 _ _ _ at jH;simp only[List.size_toArray] at jH;have GQ:Hid ((xs.filter λx => !decide (x.size=0)).length<=xs.length):=List.length_filter_le _ _;generalize hF:(xs.filter λx => !decide (x.size=0))=F at *;have HCE:Hid (∀q j,j<F.length->(putRow I (QZ w q) g 0 (F++List.replicate (xs.length-F.length) (⟨#[]⟩:ByteArray)).toArray).cell? ⟨g,0+j,Y⟩=Z (I (F.getD j Ih))):=λq j hj=>by
  have bA:((F++List.replicate (xs.length-F.length) (⟨#[]⟩:ByteArray)).toArray).size=xs.toArray.size:=by simp;have:=GQ.out;omega
  have h:=cell?_putRow I (QZ w q) g 0 xs.toArray _ (λj hj=>hH j hj) bA j (by rw[bA];simp;have:=GQ.out;omega);rw[h];simp[Io,hj,List.getElem?_append_left hj]
 have HBP:Hid (∀q,Below g w (putRow I (QZ w q) g 0 (F++List.replicate (xs.length-F.length) (⟨#[]⟩:ByteArray)).toArray)):=λq=>LM _ _ _ _ _ _ _ (By _);have ajw:Hid (Calls be 63 #[U (Z ⟨g,0,Y⟩) xs.length xs.length,.func (.func 61) #[] #[]] w λe w'=>e=sh (U (Z ⟨g,0,Y⟩) F.length xs.length)/\Hid (∀j,j<F.length->w'.cell? ⟨g,0+j,Y⟩=Z (I (F.getD j Ih)))/\Hid (Below g w w')/\g<w'.heap.size):=(show Calls _ _ _ _ _ by
  refine jH.mono ?_;rintro e w' ⟨rfl,q,rfl⟩;exact⟨rfl,HCE.out q,HBP.out q,by rw[size_putRow];exact aL⟩)
 have HJ:Hid (∀W,(∀j,j<F.length->W.cell? ⟨g,0+j,Y⟩=Z (I (F.getD j Ih)))->g<W.heap.size->Calls be 62 #[U (Z ⟨g,0,Y⟩) F.length xs.length,I ⟨#[46]⟩] W λe w'=>e=sh (I (mk (jn (F.map bytes))))/\Below W.heap.size W w'):=λW h1 h2=>by
  have h3:=Tryz.strings_Join g 0 xs.length F ⟨#[46]⟩ W (λj x hj=>by
   obtain⟨SN,vy⟩:=Jg.1 hj;rw[h1 j SN];simp[Io,SN,vy]) h2 (by have:=GQ.out;omega) GQ.out (by
   rw[show(JZ #[46]).data.toList=[46] from rfl,pT];exact Ir hz (by omega))
  rw[show(JZ #[46]).data.toList=[46] from rfl,pT] at h3;exact h3
 clear jH HCE HBP hg hH hz eg;generalize mk (jn (F.map bytes))=R at *;generalize F.length=fl at *;generalize xs.length=n at *;go_enter Tryz.func24,Tryz.ntmps24;go_wp2_with (first|(go_at_call 63;refine ajw.out.mono ?_;rintro e w1 ⟨rfl,WU,aR,eY⟩)|(go_at_call 62;refine(HJ.out _ WU.out eY).mono ?_;rintro e w2 ⟨rfl,aC⟩));go_ret;exact⟨rfl,aR.out.trans (aC.mono (J8 eY))⟩
end Go.Proofs.YtfidjlcdlakceaaGreatDoor
namespace Go.Proofs.YtfidjlcdlakceaaGreatDoor
open Go.RowKit
theorem FT:∀(xs:List (List UInt8)),(∀x∈xs,x.length<=30)->(jn xs).length<=31*xs.length
 |[],_=>by simp[jn]
 |[x],h=>by have:=h x JO;simp[jn];omega
 |x::y::r,h=>by
  have h1:=h x JO;have h2:=FT (y::r) (λz hz=>h z (Oj _ hz));show(x++46::jn (y::r)).length<=_;simp only[Ii,IY] at h2 ⊢;omega
theorem gE(s:ByteArray)(r:List ByteArray):(((s::r).filter λx => !decide (x.size=0)).map bytes)=opt s++(r.filter λx => !decide (x.size=0)).map bytes:=by
 by_cases h:s.size=0
 .rw[mT h,List.filter_cons_of_neg (by simp[h])];rfl
 .rw[iv h,List.filter_cons_of_pos (by simp[h])];rfl
theorem aeT(sv tg ce:ByteArray):(([tg,sv,eF,ce,gM].filter λx => !decide (x.size=0)).map bytes)=opt tg++(opt sv++([pR]++(opt ce++[iK]))):=by
 rw[gE,gE,gE,gE,gE];rfl
theorem aeU(nd ce:ByteArray):(([nd,eG,ce,gM].filter λx => !decide (x.size=0)).map bytes)=opt nd++([pS]++(opt ce++[iK])):=by
 rw[gE,gE,gE,gE];rfl
theorem uY{s:ByteArray}(h:s.size<=30):∀x∈opt s,x.length<=30:=λx hx=>by
 unfold opt at hx;split at hx
 .cases hx
 .simp at hx;subst hx;simpa[bytes] using h
theorem pU(s:ByteArray):(opt s).length<=1:=by unfold opt;split<;>simp
theorem aeV{sv tg ce:ByteArray}(h1:sv.size<=30)(h2:tg.size<=30)(h3:ce.size<=30):(jn (opt tg++(opt sv++([pR]++(opt ce++[iK]))))).length<=155:=by
 refine Ir (FT _ λx hx=>?_) ?_
 .simp only[JU,J1] at hx
  rcases hx with h|h|h|h|h
  .exact uY h2 x h
  .exact uY h1 x h
  .subst h;decide
  .exact uY h3 x h
  .subst h;decide
 .have a:=pU tg;have b:=pU sv;have c:=pU ce
  simp only[Ii,JB];omega
theorem aeW{nd ce:ByteArray}(h1:nd.size<=30)(h3:ce.size<=30):(jn (opt nd++([pS]++(opt ce++[iK])))).length<=155:=by
 refine Ir (FT _ λx hx=>?_) ?_
 .simp only[JU,J1] at hx
  rcases hx with h|h|h|h
  .exact uY h1 x h
  .subst h;decide
  .exact uY h3 x h
  .subst h;decide
 .have a:=pU nd;have c:=pU ce
  simp only[Ii,JB];omega
theorem aeX(sv tg ce:ByteArray)(W:World)(g:Nat)(hg:W.heap[g]?=Z (AT #[I tg,I sv,I eF,I ce,I gM] 9 (0,0)))(h1:sv.size<=30)(h2:tg.size<=30)(h3:ce.size<=30) :
 Calls be 24 #[U (Z ⟨g,0,Y⟩) 5 5] W λe w'=>e=sh (I (mk (jn (opt tg++(opt sv++([pR]++(opt ce++[iK])))))))/\Below g W w':=by
 have h:=xU [tg,sv,eF,ce,gM] W g hg (by simp) (by rw[aeT];exact Ir (aeV h1 h2 h3) (by omega));rw[aeT] at h;exact h
theorem aeY(nd ce:ByteArray)(W:World)(g:Nat)(hg:W.heap[g]?=Z (AT #[I nd,I eG,I ce,I gM] 9 (0,0)))(h1:nd.size<=30)(h3:ce.size<=30) :
 Calls be 24 #[U (Z ⟨g,0,Y⟩) 4 4] W λe w'=>e=sh (I (mk (jn (opt nd++([pS]++(opt ce++[iK]))))))/\Below g W w':=by
 have h:=xU [nd,eG,ce,gM] W g hg (by simp) (by rw[aeU];exact Ir (aeW h1 h3) (by omega));rw[aeU] at h;exact h
theorem RN{q:Qu}(h:fo q=0):(prt q).size<=155:=by
 obtain⟨_,z1,z2,z3,z4,_⟩:=kE h;unfold prt uX;rw[gZ];split
 .exact aeV (fB z1) (fB z2) (fB z4)
 .exact aeW (fB z3) (fB z4)
theorem nz(q:Qu)(w:World)(hq:q.ok) :
 Calls be 8 #[Im #[I q.service,I q.tag,I q.node,I q.ai]] w λe w'=>e=sh (Il #[I (iy q),O J (jk q)])/\Below w.heap.size w w':=by
 have HCQ:Hid (∀W,Calls be 23 #[Im #[I q.service,I q.tag,I q.node,I q.ai]] W λe w'=>e=sh (O J (fo q))/\Below W.heap.size W w'):=λW=>uq q W hq;by_cases h0:fo q=0
 .obtain⟨_,z1,z2,z3,z4,_⟩:=kE h0
  have y1:=fB z1;have y2:=fB z2;have y3:=fB z3;have y4:=fB z4;have hps:=RN h0;have HJ5:Hid (∀(W:World) (g:Nat),W.heap[g]?=Z (AT #[I q.tag,I q.service,I eF,I q.ai,I gM] 9 (0,0))->Calls be 24 #[U (Z ⟨g,0,Y⟩) 5 5] W λe w'=>e=sh (I (mk (jn (opt q.tag++(opt q.service++([pR]++(opt q.ai++[iK])))))))/\Below g W w'):=λW g h=>aeX _ _ _ W g h y1 y2 y4;have HJ4:Hid (∀(W:World) (g:Nat),W.heap[g]?=Z (AT #[I q.node,I eG,I q.ai,I gM] 9 (0,0))->Calls be 24 #[U (Z ⟨g,0,Y⟩) 4 4] W λe w'=>e=sh (I (mk (jn (opt q.node++([pS]++(opt q.ai++[iK]))))))/\Below g W w'):=λW g h=>aeY _ _ W g h y3 y4;have Sw:Hid (∀W,Calls be 25 #[I (prt q)] W λe w'=>e=sh (O J (bT (prt q)))/\Below W.heap.size W w'):=λW=>iM _ W (by unfold Ij;omega);have HE:Hid (jk q=bT (prt q)):=if_pos h0;have HS:Hid (iy q=if jk q=0 then prt q else⟨#[]⟩):=rfl;have HP:Hid (prt q=if q.node.size=0 then mk (jn (opt q.tag++(opt q.service++([pR]++(opt q.ai++[iK]))))) else mk (jn (opt q.node++([pS]++(opt q.ai++[iK]))))):=(show prt q=_ by unfold prt uX;split<;>rfl);rw[h0] at HCQ;generalize mk (jn (opt q.tag++(opt q.service++([pR]++(opt q.ai++[iK])))))=N5 at *;generalize mk (jn (opt q.node++([pS]++(opt q.ai++[iK]))))=N4 at *;generalize iy q=S at *;generalize hce:bT (prt q)=ce' at *;generalize prt q=T at *;generalize jk q=E at *;clear h0 hq hce z1 z2 z3 z4 y1 y2 y3 y4 hps;obtain⟨sv,tg,nd,ce⟩:=q;simp only at HCQ HJ5 HJ4 HP ⊢;go_enter Tryz.func8,Tryz.ntmps8;go_wp2_with fail;refine(HCQ.out _).mono ?_;rintro e w1 ⟨rfl,al⟩;obtain⟨f0,f1,f2,f3,aR,eY⟩:=Ch al;clear al;go_wp2_with fail;refine(HJ5.out _ _ (oK _ rfl)).mono ?_;rintro e w2 ⟨rfl,aC⟩;have bw:Hid (Below w1.heap.size w1 w2):=((Ib _ _).alloc (By _) _).trans aC;have g0:=(bw.out.cell (p:=⟨w.heap.size,0,Y⟩) eY).trans f0;have g1:=(bw.out.cell (p:=⟨w.heap.size,1,Y⟩) eY).trans f1;have g2:=(bw.out.cell (p:=⟨w.heap.size,2,Y⟩) eY).trans f2;have g3:=(bw.out.cell (p:=⟨w.heap.size,3,Y⟩) eY).trans f3;have fG:w1.heap.size<=w2.heap.size:=bw.out.size;clear f0 f1 f2 f3 aC;by_cases hn:nd.size=0
  .have HT:N5=T:=by rw[HP.out,if_pos hn]
   subst HT;have en:=cO hn;subst en;clear hn HP;go_wp2_with fail;refine(Sw.out _).mono ?_;rintro e w4 ⟨rfl,fa⟩;have HBT:Hid (Below w.heap.size w w4):=(aR.out.trans (bw.out.mono (J8 eY))).trans (fa.mono (by omega));clear fa;by_cases hz:ce'=0
   .have Ad:Hid (S=N5):=FQ HS.out (by rw[HE.out];exact hz)
    subst hz;go_wp2_with fail;go_ret2;exact⟨th Ad.out.symm HE.out.symm,HBT.out⟩
   .have Ad:Hid (S=⟨#[]⟩):=(show S=⟨#[]⟩ by rw[HS.out,if_neg (by rw[HE.out];exact hz)])
    have iX:(ce'==0)=false:=by simpa using hz
    go_wp2_with fail;go_ret2;exact⟨th Ad.out.symm HE.out.symm,HBT.out⟩
  .have HT:N4=T:=by rw[HP.out,if_neg hn]
   subst HT;obtain⟨n1,n2⟩:=iY hn;clear hn HP;go_wp2_with fail;refine(HJ4.out _ _ (oK _ rfl)).mono ?_;rintro e w3 ⟨rfl,bf⟩;have da:Hid (Below w2.heap.size w2 w3):=((Ib _ _).alloc (By _) _).trans bf;have Hn:w2.heap.size<=w3.heap.size:=da.out.size;clear bf;go_wp2_with fail;refine(Sw.out _).mono ?_;rintro e w4 ⟨rfl,fa⟩;have HBT:Hid (Below w.heap.size w w4):=((aR.out.trans (bw.out.mono (J8 eY))).trans (da.out.mono (by omega))).trans (fa.mono (by omega));clear fa;by_cases hz:ce'=0
   .have Ad:Hid (S=N4):=FQ HS.out (by rw[HE.out];exact hz)
    subst hz;go_wp2_with fail;go_ret2;exact⟨th Ad.out.symm HE.out.symm,HBT.out⟩
   .have Ad:Hid (S=⟨#[]⟩):=(show S=⟨#[]⟩ by rw[HS.out,if_neg (by rw[HE.out];exact hz)])
    have iX:(ce'==0)=false:=by simpa using hz
    go_wp2_with fail;go_ret2;exact⟨th Ad.out.symm HE.out.symm,HBT.out⟩
 .have HE:Hid (jk q=fo q):=if_neg h0
  have HS:Hid (iy q=⟨#[]⟩):=if_neg (by rw[HE.out];exact h0);rw[HE.out,HS.out];have h1:(fo q==0)=false:=by simpa using h0
  clear HE HS;generalize fo q=r at *;go_enter Tryz.func8,Tryz.ntmps8;go_wp2_with (go_at_call 23;refine(HCQ.out _).mono ?_;rintro e w1 ⟨rfl,al⟩);go_ret2;exact⟨rfl,((Ib _ _).alloc (By _) _).trans (al.mono (by simp))⟩
end Go.Proofs.YtfidjlcdlakceaaGreatDoor
namespace Go.Proofs.YtfidjlcdlakceaaGreatDoor
open Go.RowKit Go.Shelf Go.Lib
theorem uZ:∀(k:Nat) (l:List UInt8),l.count 46<=k->Lib.splitK [46] 0 k l=gN l
 |0,l,h=>by
  have:46 ∉ l:=λhm=>by have:=List.count_pos_iff.2 hm;omega
  rw[mf l this];rfl
 |k+1,l,h=>by
  have j6:=Lib.indexByte_ge l 46;unfold Lib.splitK;rw[Lib.index_one];by_cases hi:JG l 46 = -1
  .rw[if_pos (by rw[hi];rfl),mf l (yg hi)]
  .obtain⟨i,Gi⟩:∃i:Nat,JG l 46=(i:Int):=⟨(JG l 46).toNat,by omega⟩
   obtain⟨h1,h2,h3⟩:=sM Gi;rw[if_neg (by rw[Gi];simp),Gi];have e:((i:Int)).toNat=i:=by omega
   rw[e];have hc:(l.drop (i+1)).count 46<=k:=by
    have h4:=congrArg (List.count 46) h2;rw[List.count_append,List.count_cons_self] at h4;omega
   show l.take (i+0)::Lib.splitK [46] 0 k (l.drop (i+1))=gN l;rw[uZ k _ hc,Nat.add_zero]
   conv=>rhs;rw[h2]
   rw[sL _ _ h3]
theorem EG(s:ByteArray):Lib.splitB ⟨#[46]⟩ 0 (Lib.countB s ⟨#[46]⟩) s=(gN s.data.toList).map mk:=by
 have h:=Lib.splitB_data ⟨#[46]⟩ 0 (Lib.countB s ⟨#[46]⟩) s;have hc:Lib.countB s ⟨#[46]⟩=s.data.toList.count 46:=Lib.count_one 46 s.data.toList;rw[show(JZ #[46]).data.toList=[46] from rfl,uZ _ _ (by rw[hc];exact By _)] at h;rw[<- h,List.map_map];have e:(mk∘λx:ByteArray=>x.data.toList)=id:=by funext x;exact mk_data x
 rw[e,List.map_id]
def ML(w:World):Prop:=0<w.heap.size/\∃m,w.cell? ⟨0,0,Y⟩=Z (O J m)
theorem ML.below{w w':World}(h:ML w)(hb:RowKit.Below w.heap.size w w'):ML w':=by
 obtain⟨h1,m,h2⟩:=h;exact⟨Iv h1 hb.size,m,(hb.cell (p:=⟨0,0,Y⟩) h1).trans h2⟩
theorem xV(s:ByteArray)(w:World)(hm:ML w)(hs:s.size<=1000) :
 Calls be 57 #[I s,I ⟨#[46]⟩] w λe w'=>e=sh (U (Z ⟨w.heap.size,0,Y⟩) (gN s.data.toList).length (gN s.data.toList).length)/\w'=w.alloc (AT (((gN s.data.toList).map mk).map I).toArray 9):=by
 obtain⟨_,m,h2⟩:=hm;have h:=Tryz.strings_Split s ⟨#[46]⟩ m w (by omega) h2 (by decide);rw[EG] at h;have hc:Lib.countB s ⟨#[46]⟩+1=(gN s.data.toList).length:=by
  rw[yf];show Lib.count s.data.toList [46]+1=_;rw[Lib.count_one]
 rw[hc] at h;exact h
end Go.Proofs.YtfidjlcdlakceaaGreatDoor
namespace Go.Proofs
open Go.Shelf
end Go.Proofs
namespace Go.Proofs.YtfidjlcdlakceaaGreatDoor
open Go.RowKit
theorem Tryz.infoByte:(Tryz.prog.info? 5).map (λi=>(i.zero,i.size,i.bytes))=Z (Z (O .u8 0),1,1):=by kernel_rfl
theorem Tryz.sizeBuilder:(Tryz.prog.info? 129).map (·.size)=Z 2:=by kernel_rfl
theorem Tryz.EH:liesAt be Tryz.prog.depth 131 (2/Tryz.prog.cellsOf 131) 0 129 1=true:=by kernel_rfl
abbrev Cu(B b:Nat)(p:Value)(bs:List Value)(w:World):Prop:=Lib.BuilderAt 131 5 B b p bs w
def cj(B b:Nat)(bs:List Value)(w:World):Prop:=Cu B b (If Y) bs w\/Cu B b (If (Z ⟨b,0,Y⟩)) bs w
def cK(w:World)(b:Nat):Option Nat:=(w.cell? ⟨b,1,Y⟩).bind I2
def Kq(b:Nat)(w w':World):Prop:=b<w.heap.size->(∀k,k<w.heap.size->k≠b->Z k≠cK w b->w'.heap[k]?=w.heap[k]?)/\(cK w' b=cK w b\/∀k,cK w' b=Z k->w.heap.size<=k)
structure Kp(B b:Nat)(w w':World):Prop where
 yd:Below B w w'
 GU:Lib.OthersKept 5 (Z b) w w'
 kq:Kq b w w'
theorem Kq.refl(b:Nat)(w:World):Kq b w w:=λ_=>⟨λ_ _ _ _=>rfl,.inl rfl⟩
theorem Kq.trans{b:Nat}{w w1 w2:World}(h:Kq b w w1)(k:Kq b w1 w2)(hs:w.heap.size<=w1.heap.size):Kq b w w2:=λhb=>by
 obtain⟨h1,h2⟩:=h hb;obtain⟨k1,k2⟩:=k (Iv hb hs);refine⟨λj hj hjb L4=>?_,?_⟩
 .refine(k1 j (Iv hj hs) hjb λe=>?_).trans (h1 j hj hjb L4)
  rcases h2 with h2|h2
  .exact L4 (e.trans h2)
  .have:=h2 j e.symm;omega
 .rcases k2 with k2|k2
  .rcases h2 with h2|h2
   .exact .inl (k2.trans h2)
   .exact .inr λj hj=>h2 j (k2▸hj)
  .exact .inr λj hj=>Ir hs (k2 j hj)
theorem Kp.refl(B b:Nat)(w:World):Kp B b w w:=⟨Ib _ _,Lib.OthersKept.refl _ _ _,Kq.refl b w⟩
theorem Kp.trans{B b:Nat}{w w1 w2:World}(h:Kp B b w w1)(k:Kp B b w1 w2):Kp B b w w2:=⟨h.yd.trans k.yd,h.GU.trans k.GU,h.kq.trans k.kq h.yd.size⟩
theorem Kp.drew{B b:Nat}{w w1:World}(h:Kp B b w w1):Kp B b w w1.drew:=⟨h.yd.drew,h.GU.drew,h.kq⟩
theorem Kp.size{B b:Nat}{w w1:World}(h:Kp B b w w1):w.heap.size<=w1.heap.size:=h.yd.size
theorem Kq.step{b:Nat}{w1 w2:World}{p v v':Value}{T:Jc}(al:w1.heap[b]?=Z (AT #[p,v] T (0,0)))(aC:w2.heap[b]?=Z (AT #[p,v] T (0,0)))(hg:∀k,k<w1.heap.size->Z k≠v.ownBlock->w2.heap[k]?=w1.heap[k]?)(cA:v'.ownBlock=v.ownBlock\/∀k,v'.ownBlock=Z k->w1.heap.size<=k):Kq b w1 (w2.setCell ⟨b,1,Y⟩ v'):=λ_=>by
 have e1:cK w1 b=v.ownBlock:=by unfold cK;rw[af al 1];rfl
 have e2:cK (w2.setCell ⟨b,1,Y⟩ v') b=v'.ownBlock:=by unfold cK;rw[World.cell?_setCell_same _ _ _ (af aC 1:w2.cell? ⟨b,1,Y⟩=Z v)];rfl
 rw[e1,e2];exact⟨λk hk TG fM=>(IB w2 _ v' k TG).trans (hg k hk fM),cA⟩
theorem tW{B n:Nat}{w:World}{v:Value}{xs:List Value}(h:w.ownsRow B 5 1 v n xs):∀g,v.ownBlock=Z g->∃c fz,w.heap[g]?=Z (AT c 5 fz):=by
 intro g hg;rcases h.2 with⟨rfl,_⟩|⟨g',cap,cur,rfl,_,hgg,_⟩
 .simp[I2] at hg
 .simp[I2] at hg
  subst hg;exact⟨cur,_,hgg⟩
theorem EI(b:Nat)(w:World)(h0:w.cell? ⟨b,0,Y⟩=Z (If Y))(tm:w.shape? b=Z (131,2))(gF:w.frozen? ⟨b,0,Y⟩=false) :
 Calls be 167 #[If (Z ⟨b,0,Y⟩)] w λe w'=>e=sh (Il #[])/\w'=w.setCell ⟨b,0,Y⟩ (If (Z ⟨b,0,Y⟩)):=by
 obtain⟨j,hj,hjs⟩:=Option.map_eq_some_iff.1 Tryz.sizeBuilder;go_enter Tryz.func167,Tryz.ntmps167;go_wp2_with fail;rw[Lib.run_to_unsafe w ⟨b,0,Y⟩ UE Tryz.underlying274 hj (by rw[hjs];decide) tm (Nat.zero_lt_succ 1)];simp only[Result.andThen];rw[Oper.upon_value];go_wp2_with fail;rw[run_callFunc_extern Tryz.func231 (by kernel_rfl) (by kernel_rfl) (by kernel_rfl) (e:=Extern.AbiNoEscape.same) (by kernel_rfl)];rw[Lib.run_noEscape];simp only[Result.andThen];rw[Oper.upon_value];go_wp2_with fail;rw[Lib.run_from_unsafe w ⟨b,0,Y⟩ Tryz.underlying274 UE hj tm Tryz.EH];simp only[Result.andThen];rw[Oper.upon_value];go_wp2_with fail;simp[Jk,results,Tryz.results167]
theorem LN(b:Nat)(w:World)(h0:w.cell? ⟨b,0,Y⟩=Z (If (Z ⟨b,0,Y⟩))) :
 Calls be 167 #[If (Z ⟨b,0,Y⟩)] w λe w'=>e=sh (Il #[])/\w'=w:=by
 obtain⟨j,hj,_⟩:=Option.map_eq_some_iff.1 Tryz.sizeBuilder;go_enter Tryz.func167,Tryz.ntmps167;go_wp2_with fail;rw[Lib.run_neq_ptr_same w _ UE hj];go_wp2_with fail;simp[Jk,results,Tryz.results167]
theorem Cj(B b:Nat)(bs:List Value)(w:World)(h:cj B b bs w) :
 Calls be 167 #[If (Z ⟨b,0,Y⟩)] w λe w'=>e=sh (Il #[])/\Cu B b (If (Z ⟨b,0,Y⟩)) bs w'/\Kp B b w w':=by
 rcases h with h|h
 .refine(EI b w h.cell0 h.shape h.frozen0).mono ?_
  rintro e w' ⟨rfl,rfl⟩;exact⟨rfl,h.used _,(Ib B w).setCell (p:=⟨b,0,Y⟩) h.1 _,(Lib.OthersKept.refl _ _ w).setCell ⟨b,0,Y⟩ rfl _,λ_=>⟨λk _ TG _=>IB w _ _ k TG,.inl (by unfold cK;rw[World.cell?_setCell_other _ _ _ _ (by simp)])⟩⟩
 .refine(LN b w h.cell0).mono ?_
  rintro e w' ⟨rfl,rfl⟩;exact⟨rfl,h,Kp.refl B b _⟩
theorem nX(B b:Nat)(bs:List Value)(c:Int)(w:World)(h:cj B b bs w)(hlen:bs.length+1<=1000000)(sw:B<=w.heap.size) :
 Calls be 171 #[If (Z ⟨b,0,Y⟩),O .u8 c] w λe w'=>e=sh .nilIface/\Cu B b (If (Z ⟨b,0,Y⟩)) (bs++[O .u8 c]) w'/\Kp B b w w':=by
 obtain⟨i0,hi,bW,cS,iX⟩:=info_parts Tryz.infoByte;have HC:Hid (Calls be 167 #[If (Z ⟨b,0,Y⟩)] w λe w'=>e=sh (Il #[])/\Cu B b (If (Z ⟨b,0,Y⟩)) bs w'/\Kp B b w w'):=Cj B b bs w h;clear h;go_enter Tryz.func171,Tryz.ntmps171;go_wp2_with fail;refine HC.out.mono ?_;rintro e w1 ⟨rfl,h1,al⟩;obtain⟨hB,v,wF,hown,bu⟩:=h1;have c0:w1.cell? ⟨b,0,Y⟩=Z (If (Z ⟨b,0,Y⟩)):=af wF 0;have c1:w1.cell? ⟨b,1,Y⟩=Z v:=af wF 1;have Ak:=al.size;have HO:Hid (w1.ownsRow B 5 1 v bs.length bs):=hown;have HK:Hid (w1.heap[b]?=Z (AT #[If (Z ⟨b,0,Y⟩),v] 131 (0,0))):=wF;clear hown wF;go_wp2_with (at_builtin;refine wpList_append_own_at _ rfl _ _ 127 rfl B 5 i0 (O .u8 0) 1 1 JQ hi bW cS iX rfl (by decide) _ bs.length bs rfl (HO.out.alloc _) ⟨w1.heap.size,0,Y⟩ 1 1 [O .u8 c] rfl rfl ?c1 ?c2 ?c3 ?c4 ?c5 ?_)
 case c1=>(intro j u hj;rw[Addr.add_lit];exact(bJ (by simp)).trans (by simpa using hj))
 case c2=>(intro u hu;simp at hu;subst hu;rfl)
 case c3=>(unfold Ij;omega)
 case c4=>omega
 case c5=>(simp;omega)
 intro v' w2 vc bX _ cA;have aL:b<w1.heap.size:=(Ia.1 HK.out).1;have aC:w2.heap[b]?=Z (AT #[If (Z ⟨b,0,Y⟩),v] 131 (0,0)):=by
  rw[bX.block b (by simp;omega) (λe=>bu e.symm),I9 w1 _ b aL];exact HK.out
 have d0:w2.cell? ⟨b,0,Y⟩=Z (If (Z ⟨b,0,Y⟩)):=af aC 0;have d1:w2.cell? ⟨b,1,Y⟩=Z v:=af aC 1;have f1:w2.frozen? ⟨b,1,Y⟩=false:=Lib.frozen_of_heap aC 1;have bw:Hid (Below B w w2/\Lib.OthersKept 5 (Z b) w w2):=(show _/\_ from⟨(al.yd.alloc (by omega) _).grown bX (by simp;omega) (λk hk=>(HO.out.lt k hk).1),(al.GU.alloc _).grown bX (tW (HO.out.alloc _))⟩);have HKQ:Hid (Kq b w (w2.setCell ⟨b,1,Y⟩ v')):=al.kq.trans (Kq.step HK.out aC (λk hk fM=>(bX.block k (by simp;omega) fM).trans (I9 w1 _ k hk)) (cA.imp id (λe k hk=>by rw[e] at hk;simp at hk;omega))) Ak;have j3:Hid (w2.heap[b]?=Z (AT #[If (Z ⟨b,0,Y⟩),v] 131 (0,0))):=aC;have gv:Hid (w2.ownsRow B 5 1 v' (bs.length+1) (bs++[O .u8 c])):=vc;obtain⟨g,cap,hv⟩:∃g cap,v'=U (Z ⟨g,0,Y⟩) (bs.length+1) cap:=by
  rcases vc.2 with⟨_,h0⟩|⟨g,cap,cur,hv,_⟩
  .omega
  .exact⟨g,cap,hv⟩
 subst hv;clear vc bX aC c0 c1 al cA;go_wp2_with fail;go_ret;refine⟨rfl,?_,?_⟩
 .exact Lib.BuilderAt.put (T:=131) (e:=5) hB j3.out (bs':=bs++[O .u8 c]) (by simpa using gv.out) (by decide)
 .exact⟨bw.out.1.setCell (p:=⟨b,1,Y⟩) hB _,bw.out.2.setCell ⟨b,1,Y⟩ rfl _,HKQ.out⟩
def bt(n:Int)(m:Nat):Int:=IntKind.u8.wrap (n/2^(8*(m:Int)).toNat)
def cE(n:Int):Nat->List Value
 |0=>[]
 |k+1=>.int .u8 (bt n k)::cE n k
theorem aM(B b nb:Nat)(n:Int)(bs:List Value)(w:World)(h:cj B b bs w)(hnb:nb<=8)(hlen:bs.length<=100000)(sw:B<=w.heap.size) :
 Calls be 124 #[If (Z ⟨b,0,Y⟩),O J nb,O J n] w λe w'=>e=sh (Il #[])/\cj B b (bs++cE n nb) w'/\Kp B b w w':=by
 have HI:Hid (cj B b bs w):=h;clear h;go_enter Tryz.func124,Tryz.ntmps124;go_wp2_with fail;go_loopw [6] (λi wr=>∃(k:Nat) (D:List Value),k<=nb/\i=O J ((k:Int)-1)/\D.length+k<=200000/\Hid (D++cE n k=bs++cE n nb)/\Hid (cj B b D wr)/\Hid (Kp B b w wr)) (λi _=>(intOf i+1).toNat)
 case atStart=>exact⟨nb,bs,By _,by go_num,by omega,rfl,HI,Kp.refl _ _ _⟩
 case round=>
  obtain⟨k,D,hk,rfl,hD,HN,HW,HB⟩:=hrel;cases k with
  |zero=>
   have Sz:Hid (cj B b (bs++cE n nb) wr):=(show cj _ _ _ _ by rw[<- HN.out,show cE n 0=[] from rfl,List.append_nil];exact HW.out);go_wp2_with fail;simp[Jk,results,Tryz.results124];exact⟨Sz.out,HB.out⟩
  |succ m=>
   have e1:(((m+1:Nat):Int)-1)=(m:Int):=by omega
   rw[e1];have hm0:(0:Int)<=(m:Int):=by omega
   have hmul:IntKind.i64.wrap (8*(m:Int))=8*(m:Int):=by rw[IK];omega
   have GY:B<=wr.heap.size:=Ir sw HB.out.size;have HWd:Hid (cj B b D wr.drew):=HW.out;go_wp2_with fail;go_region_held3 (λ_=>True) (trivial) (first
    |(go_at_call 171;refine(nX B b D _ _ HW.out (by omega) GY).mono ?_;rintro e w5 ⟨rfl,yE,lA⟩)
    |(go_at_call 171;refine(nX B b D _ _ HWd.out (by omega) GY).mono ?_;rintro e w5 ⟨rfl,yE,lA⟩))
   have HW6:Hid (cj B b (D++[O .u8 (bt n m)]) w5):=(show cj _ _ _ _ from .inr yE);have kX:Hid (Kp B b w w5):=HB.out.drew.trans lA;have HN6:Hid ((D++[O .u8 (bt n m)])++cE n m=bs++cE n nb):=(show _=_ by rw[<- HN.out,I1];rfl);clear yE lA;go_wp2_with fail;exact⟨⟨m,D++[O .u8 (bt n m)],by omega,by go_num,by simp;omega,HN6,HW6,kX⟩,by simp[intOf]⟩
theorem vd{P:Program}{w W:World}{base n:Nat}{t u ty e:Jc}{i:TypeInfo}{v v':Value}{xs:List Value}{s:ByteArray}(ht:P.underlying t=Z (.slice e))(hu:P.underlying u=Z .string)(hi:P.info? e=Z i)(hz:i.zero=Z (O .u8 0))(nV:i.size=1)(hby:i.bytes=1)(hown:w.ownsRow base e 1 v n xs)(h63:n+s.size<=Ij)(hbytes:n+s.size<=140737488355328)(hr:(Builtin.append_ #[t,u] ty #[v,I s]).run P w=.ok v' W)(iD:v'=U Y 0 0↔v=U Y 0 0/\s.size=0):v'.ownBlock=v.ownBlock\/v'.ownBlock=Z w.heap.size:=by
 have hm:n+s.size<=9223372036854775807:=by simp only[Ij] at h63;omega
 have hxl:xs.length=n:=by simpa using hown.1
 rcases hown.2 with⟨rfl,rfl⟩|⟨g,cap,cur,rfl,_,hg,_,_,cM,_⟩
 .by_cases h0:s.size=0
  .exact .inl (by rw[iD.2 ⟨rfl,h0⟩])
  .rw[run_append_nil_string (P:=P) w t u ty e i (O .u8 0) ht hu hi hz s (by omega) (by omega) (by rw[hby];omega)] at hr
   injection hr with h1 _;exact .inr (by rw[<- h1];rfl)
 .by_cases cV:n+s.size<=cap
  .rw[Lib.run_append_room_string (P:=P) w t u ty e i ht hu hi nV g n cap cur hg s cV (by have:=cM;omega)] at hr
   injection hr with h1 _;exact .inl (by rw[<- h1];rfl)
  .rw[Lib.run_append_grow_string (P:=P) w t u ty e i (O .u8 0) ht hu hi hz ⟨g,0,Y⟩ n cap xs (by rw[nV];simpa using hxl) (hown.cells (g:=g) rfl) s (by omega) (by omega) (by rw[hby];exact growslice_fits (by omega) (by omega))] at hr
   injection hr with h1 _;exact .inr (by rw[<- h1];rfl)
theorem oL{P:Program}(w:World){ops:Array Oper}{rest:List Oper}{o:Oper}{a:Act}{Q:Exit->Act->World->Prop}(hgd:o.guard=Y)(sl x:Operand)(t u:Jc)(ho:o.op=.call { callee:=.builtin .append,args:=#[sl,x],argTypes:=#[t,u] })(base:Nat)(e:Jc)(i:TypeInfo)(ht:P.underlying t=Z (.slice e))(hu:P.underlying u=Z .string)(hi:P.info? e=Z i)(hz:i.zero=Z (O .u8 0))(nV:i.size=1)(hby:i.bytes=1)
 (v:Value) (n:Nat) (xs:List Value) (hs:a.eval sl=v) (hown:w.ownsRow base e 1 v n xs) (s:ByteArray) (hx:a.eval x=I s) (h63:n+s.size<=Ij) (hbytes:n+s.size<=140737488355328) (hbase:base<=w.heap.size)
 (h:∀v' w',w'.ownsRow base e 1 v' (n+s.size) (xs++Oi s)->w.grownBy w' v.ownBlock->(v'.ownBlock=v.ownBlock\/v'.ownBlock=Z w.heap.size)->wpList P ops Q rest (a.put o.dst v') w'):wpList P ops Q (o::rest) a w:=by
 obtain⟨v',w',hr,h2,h3,h4⟩:=Lib.run_append_own_string (P:=P) w base t u o.type e i ht hu hi hz nV hby v n xs hown s h63 hbytes hbase;have h5:=vd ht hu hi hz nV hby hown h63 hbytes hr h4;refine wpList_plain hgd λK hK=>?_;have hgo:K (a.put o.dst v') w':=hK _ _ (h v' w' h2 h3 h5);simp only[Oper.wp,execOp,ho,resolve,invoke,builtin,Sem.run_bind,Sem.run_pure,Result.andThen_ok,List.map_toArray,OU,Ud,hs,hx,hr];exact hgo
theorem lB(B b:Nat)(bs:List Value)(s:ByteArray)(w:World)(h:cj B b bs w)(hlen:bs.length+s.size<=1000000)(sw:B<=w.heap.size) :
 Calls be 117 #[If (Z ⟨b,0,Y⟩),I s] w λe w'=>e=sh (Il #[O J s.size,.nilIface])/\Cu B b (If (Z ⟨b,0,Y⟩)) (bs++Oi s) w'/\Kp B b w w':=by
 obtain⟨i0,hi,bW,cS,iX⟩:=info_parts Tryz.infoByte;have HC:Hid (Calls be 167 #[If (Z ⟨b,0,Y⟩)] w λe w'=>e=sh (Il #[])/\Cu B b (If (Z ⟨b,0,Y⟩)) bs w'/\Kp B b w w'):=Cj B b bs w h;clear h;go_enter Tryz.func117,Tryz.ntmps117;go_wp2_with fail;refine HC.out.mono ?_;rintro e w1 ⟨rfl,h1,al⟩;obtain⟨hB,v,wF,hown,bu⟩:=h1;have c0:w1.cell? ⟨b,0,Y⟩=Z (If (Z ⟨b,0,Y⟩)):=af wF 0;have c1:w1.cell? ⟨b,1,Y⟩=Z v:=af wF 1;have Ak:=al.size;have HO:Hid (w1.ownsRow B 5 1 v bs.length bs):=hown;have HK:Hid (w1.heap[b]?=Z (AT #[If (Z ⟨b,0,Y⟩),v] 131 (0,0))):=wF;clear hown wF;go_wp2_with (at_builtin;refine oL _ rfl _ _ 127 9 rfl B 5 i0 JQ IE hi bW cS iX _ bs.length bs rfl HO.out s rfl ?c3 ?c4 ?c5 ?_)
 case c3=>(unfold Ij;omega)
 case c4=>omega
 case c5=>omega
 intro v' w2 vc bX cA;have aL:b<w1.heap.size:=(Ia.1 HK.out).1;have aC:w2.heap[b]?=Z (AT #[If (Z ⟨b,0,Y⟩),v] 131 (0,0)):=by
  rw[bX.block b aL (λe=>bu e.symm)];exact HK.out
 have d0:w2.cell? ⟨b,0,Y⟩=Z (If (Z ⟨b,0,Y⟩)):=af aC 0;have d1:w2.cell? ⟨b,1,Y⟩=Z v:=af aC 1;have f1:w2.frozen? ⟨b,1,Y⟩=false:=Lib.frozen_of_heap aC 1;have bw:Hid (Below B w w2/\Lib.OthersKept 5 (Z b) w w2):=(show _/\_ from⟨al.yd.grown bX (by omega) (λk hk=>(HO.out.lt k hk).1),al.GU.grown bX (tW HO.out)⟩);have HKQ:Hid (Kq b w (w2.setCell ⟨b,1,Y⟩ v')):=al.kq.trans (Kq.step HK.out aC (λk hk fM=>bX.block k hk fM) (cA.imp id (λe k hk=>by rw[e] at hk;simp at hk;omega))) Ak;have j3:Hid (w2.heap[b]?=Z (AT #[If (Z ⟨b,0,Y⟩),v] 131 (0,0))):=aC;have gv:Hid (w2.ownsRow B 5 1 v' (bs++Oi s).length (bs++Oi s)):=(show World.ownsRow _ _ _ _ _ _ _ by simpa[Lib.strCells_length] using vc);obtain⟨ao,n',cap,hv⟩:∃ao n' cap,v'=U ao n' cap:=by
  rcases vc.2 with⟨hv,_⟩|⟨g,cap,cur,hv,_⟩
  .exact⟨_,_,_,hv⟩
  .exact⟨_,_,_,hv⟩
 subst hv;clear vc bX aC c0 c1 al cA;go_wp2_with fail;go_ret2;refine⟨rfl,?_,?_⟩
 .exact Lib.BuilderAt.put (T:=131) (e:=5) hB j3.out (bs':=bs++Oi s) gv.out (by decide)
 .exact⟨bw.out.1.setCell (p:=⟨b,1,Y⟩) hB _,bw.out.2.setCell ⟨b,1,Y⟩ rfl _,HKQ.out⟩
theorem bB(n:Int):∀k,(cE n k).length=k
 |0=>rfl
 |k+1=>by simp[cE,bB n k]
theorem rK(B b:Nat)(bs:List Value)(s:ByteArray)(w:World)(h:cj B b bs w)(hlen:bs.length<=90000)(hs:s.size<=1000)(sw:B<=w.heap.size) :
 Calls be 172 #[If (Z ⟨b,0,Y⟩),I s] w λe w'=>e=sh (Il #[])/\cj B b (bs++(cE s.size 1++Oi s)) w'/\Kp B b w w':=by
 have HI:Hid (cj B b bs w):=h;clear h;go_enter Tryz.func172,Tryz.ntmps172;go_wp2_with fail;refine(aM B b 1 s.size bs w HI.out (by omega) (by omega) sw).mono ?_;rintro e w1 ⟨rfl,h1,al⟩;have cS:=al.size;go_wp2_with fail;refine(lB B b _ s w1 h1 (by rw[Ii,bB];omega) (by omega)).mono ?_;rintro e w2 ⟨rfl,h2,aC⟩;have Sz:Hid (cj B b (bs++(cE s.size 1++Oi s)) w2):=(show cj _ _ _ _ by rw[<- I1];exact .inr h2);have bw:Hid (Kp B b w w2):=al.trans aC;clear h1 al h2 aC;go_wp2_with fail;simp[Jk,results,Tryz.results172];exact⟨Sz.out,bw.out⟩
def lM(l:ByteArray):List Value:=cE l.size 1++Oi l
def dD(s:ByteArray):List Value:=(gB s).flatMap lM++cE 0 1
theorem cj.alloc{B b:Nat}{bs:List Value}{w:World}(h:cj B b bs w)(o:Obj):cj B b bs (w.alloc o):=by
 have go:∀p,Cu B b p bs w->Cu B b p bs (w.alloc o):=λp ⟨hB,v,hb,ho,bu⟩=>
  ⟨hB,v,(I9 w o b (Ia.1 hb).1).trans hb,ho.alloc o,bu⟩
 rcases h with h|h
 .exact .inl (go _ h)
 .exact .inr (go _ h)
theorem cj.lt{B b:Nat}{bs:List Value}{w:World}(h:cj B b bs w):b<w.heap.size:=by
 rcases h with h|h
 .exact h.lt
 .exact h.lt
theorem RO(l:ByteArray):(lM l).length=1+l.size:=by
 unfold lM;rw[Ii,bB,Lib.strCells_length]
theorem mv:∀(L:List ByteArray),(∀x∈L,x.size<=30)->(L.flatMap lM).length<=31*L.length
 |[],_=>by simp
 |x::r,h=>by
  have h1:=h x JO;have h2:=mv r (λy hy=>h y (Oj _ hy));rw[List.flatMap_cons,Ii,RO,IY];omega
theorem kC{s:ByteArray}(h:bT s=0):(gB s).length<=8/\∀x∈gB s,x.size<=30:=by
 rw[xB] at h;split at h
 .omega
 .rename_i h1
  split at h
  .omega
  .rename_i h2
   refine⟨by omega,λx hx=>?_⟩;have h3:(gB s).all aN=true:=by simpa using h1
   have h4:=J5.1 h3 x hx;unfold aN at h4;simp only[IJ,decide_eq_true_eq] at h4;exact h4.1.2
theorem Kp.alloc{B b:Nat}{w:World}(o:Obj)(hB:B<=w.heap.size):Kp B b w (w.alloc o):=⟨(Ib _ _).alloc hB _,(Lib.OthersKept.refl _ _ _).alloc _,λhb=>⟨λk hk _ _=>I9 w o k hk,.inl (by unfold cK;rw[World.cell?_of_block (w:=w) (I9 w o b hb)])⟩⟩
theorem nr(B b:Nat)(bs:List Value)(s:ByteArray)(w:World)(hm:ML w)(h:cj B b bs w)(hlen:bs.length<=50000)(hn:bT s=0)(sw:B<=w.heap.size) :
 Calls be 125 #[If (Z ⟨b,0,Y⟩),I s] w λe w'=>e=sh (Il #[])/\cj B b (bs++dD s) w'/\Kp B b w w':=by
 have HI:Hid (cj B b bs w):=h;clear h;by_cases h0:s.size=0
 .have HE:Hid (dD s=cE 0 1):=(show dD s=cE 0 1 by unfold dD gB;rw[if_pos h0];rfl)
  rw[HE.out];have:=cO h0;subst this;clear HE h0 hn;go_enter Tryz.func125,Tryz.ntmps125;go_wp2_with fail;refine(aM B b 1 0 bs w HI.out (by omega) (by omega) sw).mono ?_;rintro e w1 ⟨rfl,h1,al⟩;have rC:Hid (cj B b (bs++cE 0 1) w1):=h1;have aR:Hid (Kp B b w w1):=al;clear h1 al;go_wp2_with fail;simp[Jk,results,Tryz.results125];exact⟨rC.out,aR.out⟩
 .obtain⟨n1,n2⟩:=iY h0
  have bA:s.size<=1000:=by
   unfold bT at hn;rw[if_neg h0] at hn;split at hn
   .omega
   .split at hn<;>omega
  have hl:gB s=(gN s.data.toList).map mk:=if_neg h0;have XP:(gB s).length=(gN s.data.toList).length:=by rw[hl,Oy]
  have P0:Hid (Calls be 57 #[I s,I ⟨#[46]⟩] w λe w'=>e=sh (U (Z ⟨w.heap.size,0,Y⟩) (gB s).length (gB s).length)/\w'=w.alloc (AT ((gB s).map I).toArray 9)):=(show Calls _ _ _ _ _ by
   have h:=xV s w hm bA;rw[<- hl,<- XP] at h;exact h)
  obtain⟨hL8,tT⟩:=kC hn;have HE:Hid (bs++dD s=(bs++(gB s).flatMap lM)++cE 0 1):=(show _=_ by unfold dD;rw[I1]);rw[HE.out];clear HE hl XP hm hn h0;generalize gB s=L at *;have aU:=HI.out.lt;go_enter Tryz.func125,Tryz.ntmps125;go_wp2_with fail;refine P0.out.mono ?_;rintro e w1 ⟨rfl,De⟩;have jZ:w1.heap[w.heap.size]?=Z (AT (L.map I).toArray 9 (0,0)):=by rw[De];exact Ie w _
  have nJ:Hid (Kp B b w w1):=(show Kp B b w w1 by rw[De];exact Kp.alloc _ sw);have sU:Hid (cj B b bs w1):=(show cj B b bs w1 by rw[De];exact HI.out.alloc _);have hB1:B<=w1.heap.size:=Ir sw nJ.out.size;have HC:Hid (∀W,Kp B b w1 W->∀j,j<L.length->W.cell? ⟨w.heap.size,j,Y⟩=Z (I (L.getD j Ih))):=λW hW j hj=>by
   have iL:W.heap[w.heap.size]?=Z (AT (L.map I).toArray 9 (0,0)):=hW.GU _ _ jZ (by simp;omega) (by simp);rw[af iL];simp[Io,hj]
  have ajz:Hid (∀j,(L.getD j Ih).size<=30):=λj=>by
   by_cases hj:j<L.length
   .rw[show L.getD j Ih=L[j] by simp[Io,Ic hj]]
    exact tT _ (IV hj)
   .rw[show L.getD j Ih=Ih by simp[Io,IP (by omega:L.length<=j)]];decide
  have GQ:Hid (∀k,((L.take k).flatMap lM).length<=248):=λk=>by
   refine Ir (mv (L.take k) λx hx=>tT x (Jm hx)) ?_;rw[Iu];omega
  have lG:Hid (∀k,k<L.length->(bs++(L.take k).flatMap lM)++(cE (L.getD k Ih).size 1++Oi (L.getD k Ih))=bs++(L.take (k+1)).flatMap lM):=λk hk=>by
   rw[List.take_succ_eq_append_getElem hk,List.flatMap_append,I1];simp[lM,Io,hk]
  clear jZ De P0 tT;generalize Ns:L.length=n at *;have sq:Hid (L.length=n):=Ns;clear Ns;go_wp2_with fail;go_loopw [11] (λi wr=>∃k:Nat,k<=n/\i=O J k/\Hid (cj B b (bs++(L.take k).flatMap lM) wr)/\Hid (Kp B b w1 wr)) (λi _=>n-(intOf i).toNat)
  case atStart=>exact⟨0,Nat.zero_le _,rfl,by simpa using sU,Kp.refl _ _ _⟩
  case round=>
   obtain⟨k,hk,rfl,HW,TK⟩:=hrel;have GY:B<=wr.heap.size:=Ir hB1 TK.out.size;by_cases aL:k<n
   .have hc:=HC.out wr TK.out k aL
    have ao8:=ajz.out k;have oi:=GQ.out k;have Ad:=lG.out k aL;have Vy:Hid ((bs++(L.take k).flatMap lM)++(cE (L.getD k Ih).size 1++Oi (L.getD k Ih))=bs++(L.take (k+1)).flatMap lM):=Ad;clear Ad;generalize L.getD k Ih=x at *;go_wp2_with fail;refine(rK B b _ x wr HW.out (by rw[Ii];omega) (by omega) GY).mono ?_;rintro e w2 ⟨rfl,h2,aC⟩;have Sz:Hid (cj B b (bs++(L.take (k+1)).flatMap lM) w2):=(show cj _ _ _ _ by rw[<- Vy.out];exact h2);have j3:Hid (Kp B b w1 w2):=TK.out.trans aC;clear h2 aC;go_wp2_with fail;exact⟨⟨k+1,by omega,by go_num,Sz,j3⟩,by simp[intOf];omega⟩
   .have fM:k=n:=by omega
    have HWF:Hid (cj B b (bs++L.flatMap lM) wr):=(show cj _ _ _ _ by
     have h:=HW.out
     rwa [IS (by rw[sq.out];omega)] at h)
    have oi:=GQ.out n;rw[IS (by rw[sq.out];exact By _)] at oi;go_wp2_with fail;refine(aM B b 1 0 _ wr HWF.out (by omega) (by rw[Ii];omega) GY).mono ?_;rintro e w2 ⟨rfl,h2,aC⟩;have Sz:Hid (cj B b ((bs++L.flatMap lM)++cE 0 1) w2):=h2;have j3:Hid (Kp B b w w2):=(nJ.out.trans TK.out).trans aC;clear h2 aC;go_wp2_with fail;simp[Jk,results,Tryz.results125];exact⟨by simpa using Sz.out,j3.out⟩
end Go.Proofs.YtfidjlcdlakceaaGreatDoor
namespace Go.Proofs.YtfidjlcdlakceaaGreatDoor
open Go.RowKit Go.Shelf Go.Lib Go.Sort
def gY(x:ByteArray):Bool:=decide (x=eF)||decide (x=eG)
theorem EJ(x:ByteArray)(W:World):FnGives be 112 #[] #[I x] (AI (gY x)) W:=by
 show Calls be 112 #[I x] W _;by_cases h1:x=eF
 .subst h1
  go_enter Tryz.func112,Tryz.ntmps112;go_wp2_with fail;go_ret;exact⟨aD (by simp[gY]),0,rfl⟩
 .obtain⟨a1,a2⟩:=V0 h1
  by_cases h2:x=eG
  .subst h2
   go_enter Tryz.func112,Tryz.ntmps112;go_wp2_with fail;go_ret;exact⟨aD (by simp[gY]),0,rfl⟩
  .obtain⟨b1,b2⟩:=FP h2
   have HF:Hid (gY x=false):=(show gY x=false by simp[gY,h1,h2]);go_enter Tryz.func112,Tryz.ntmps112;go_wp2_with fail;go_ret;exact⟨aD HF.out.symm,0,rfl⟩
def nG(L:List ByteArray):Int:=Lib.idxBy (λ_ y=>gY y) L default
def jB(L:List ByteArray):ByteArray:=mk (jn (L.map bytes))
def qE:Qu:=⟨⟨#[]⟩,⟨#[]⟩,⟨#[]⟩,⟨#[]⟩⟩
def wW(L:List ByteArray):Qu:=
 if nG L<1 then qE
 else if L.getD (nG L).toNat Ih=eG then⟨⟨#[]⟩,⟨#[]⟩,L.getD ((nG L).toNat-1) Ih,jB (L.drop ((nG L).toNat+1))⟩
 else⟨L.getD ((nG L).toNat-1) Ih,jB (L.take ((nG L).toNat-1)),⟨#[]⟩,jB (L.drop ((nG L).toNat+1))⟩
theorem Ck:∀(L:List ByteArray) (n:Nat),(OW (λ_ y=>gY y) (default:ByteArray) L n = -1/\∀j,j<L.length->gY (L.getD j Ih)=false)\/∃i,i<L.length/\OW (λ_ y=>gY y) (default:ByteArray) L n=((n+i:Nat):Int)/\gY (L.getD i Ih)=true/\∀j,j<i->gY (L.getD j Ih)=false
 |[],n=>.inl ⟨rfl,λj hj=>absurd hj (Ji _)⟩
 |x::r,n=>by
  unfold OW;by_cases h:gY x=true
  .rw[if_pos h]
   exact .inr ⟨0,by simp,rfl,h,λj hj=>absurd hj (Ji _)⟩
  .rw[if_neg h]
   have hf:gY x=false:=by simpa using h
   rcases Ck r (n+1) with⟨h1,h2⟩|⟨i,h1,h2,h3,h4⟩
   .refine .inl ⟨h1,λj hj=>?_⟩
    cases j with
    |zero=>exact hf
    |succ j=>exact h2 j (by simpa using hj)
   .refine .inr ⟨i+1,by simpa using h1,by rw[h2];congr 1;omega,h3,λj hj=>?_⟩
    cases j with
    |zero=>exact hf
    |succ j=>exact h4 j (by omega)
theorem RP(L:List ByteArray):(nG L = -1/\∀j,j<L.length->gY (L.getD j Ih)=false)\/∃i:Nat,i<L.length/\nG L=(i:Int)/\gY (L.getD i Ih)=true/\∀j,j<i->gY (L.getD j Ih)=false:=by
 have h:=Ck L 0;rcases h with h|⟨i,h1,h2,h3,h4⟩
 .exact .inl h
 .exact .inr ⟨i,h1,by rw[show nG L=OW (λ_ y=>gY y) (default:ByteArray) L 0 from rfl,h2,IM],h3,h4⟩
theorem xW(L:List ByteArray)(g o c:Nat)(W:World)(hc:∀j,j<L.length->W.cell? ⟨g,o+j,Y⟩=Z (I (L.getD j Ih)))(hg:g<W.heap.size)(hL:L.length<=c)(hn:L.length<=1000)(hz:(jn (L.map bytes)).length<=100000) :
 Calls be 62 #[U (Z ⟨g,o,Y⟩) L.length c,I ⟨#[46]⟩] W λe w'=>e=sh (I (jB L))/\Below W.heap.size W w':=by
 have h3:=Tryz.strings_Join g o c L ⟨#[46]⟩ W (λj x hj=>by
  obtain⟨SN,vy⟩:=Jg.1 hj;rw[hc j SN];simp[Io,SN,vy]) hg (by omega) hL (by
  rw[show(JZ #[46]).data.toList=[46] from rfl,pT];exact Ir hz (by omega))
 rw[show(JZ #[46]).data.toList=[46] from rfl,pT] at h3;exact h3
theorem ve{W:World}{o:Obj}{b k:Nat}(h:b<W.heap.size):(W.alloc o).cell? ⟨b,k,Y⟩=W.cell? ⟨b,k,Y⟩:=World.cell?_alloc_past (w:=W) _ b _ h
theorem xX{w w1:World}{a b c d:Value}{t:Jc}(h:Below (w.alloc (AT #[a,b,c,d] t)).heap.size (w.alloc (AT #[a,b,c,d] t)) w1) :
 w1.heap[w.heap.size]?=Z (AT #[a,b,c,d] t (0,0))/\∀j,w1.frozen? ⟨w.heap.size,j,Y⟩=false:=by
 have hg:w1.heap[w.heap.size]?=Z (AT #[a,b,c,d] t (0,0)):=(h.block _ (by simp)).trans (Ie w _);exact⟨hg,λj=>by simp[World.frozen?,hg]⟩
theorem LO(L:List ByteArray)(g c:Nat)(w:World)(hc:∀j,j<L.length->w.cell? ⟨g,0+j,Y⟩=Z (I (L.getD j Ih)))(hg:g<w.heap.size)(hL:L.length<c)(hn:L.length<=100)(hz:∀L',(∃a b,L'=(L.drop a).take b)->(jn (L'.map bytes)).length<=100000) :
 Calls be 58 #[U (Z ⟨g,0,Y⟩) L.length c] w λe w'=>e=sh (Im #[I (wW L).service,I (wW L).tag,I (wW L).node,I (wW L).ai])/\Below w.heap.size w w':=by
 have eg:∀args w,(callFunc 112 args).run be w=.ok (.enter 112 args) w:=enters_of Tryz.func112 (by kernel_rfl) rfl;have HIX:Hid (∀W,Below w.heap.size w W->Calls be 113 #[U (Z ⟨g,0,Y⟩) L.length c,.func (.func 112) #[] #[]] W λe w'=>e=sh (O J (nG L))/\Below W.heap.size W w'):=λW hW=>by
  have h:=AnyE.slices_IndexFunc (P:=be) (ρ:=Tryz.FR) Tryz.ixS I gY 112 #[] eg g 0 L.length c L W (λW x _=>EJ x W) (By _) (by omega) (λj hj=>by
   rw[(hW.cell (p:=⟨g,0+j,Y⟩) hg).trans (hc j hj)];simp[Io,getElem!_pos,hj])
  rw[OC] at h;refine h.mono ?_;rintro e w' ⟨rfl,q,rfl⟩;exact⟨rfl,Mv (Ib _ _) _⟩
 have HC:Hid (∀W,Below w.heap.size w W->∀j,j<L.length->W.cell? ⟨g,0+j,Y⟩=Z (I (L.getD j Ih))):=λW hW j hj=>(hW.cell (p:=⟨g,0+j,Y⟩) hg).trans (hc j hj);have HG:Hid (wW L=if nG L<1 then qE
 else if L.getD (nG L).toNat Ih=eG then⟨⟨#[]⟩,⟨#[]⟩,L.getD ((nG L).toNat-1) Ih,jB (L.drop ((nG L).toNat+1))⟩
 else⟨L.getD ((nG L).toNat-1) Ih,jB (L.take ((nG L).toNat-1)),⟨#[]⟩,jB (L.drop ((nG L).toNat+1))⟩):=rfl
 have HJD:Hid (∀i W,i<L.length->Below w.heap.size w W->Calls be 62 #[U (Z ⟨g,i+1,Y⟩) (L.length-(i+1)) (c-(i+1)),I ⟨#[46]⟩] W λe w'=>e=sh (I (jB (L.drop (i+1))))/\Below W.heap.size W w'):=λi W hi hW=>by
  have h:=xW (L.drop (i+1)) g (i+1) (c-(i+1)) W (λj hj=>by
   rw[Jr] at hj;have h2:=HC.out W hW (i+1+j) (by omega);rw[IM] at h2;rw[h2];simp[Io]) (Iv hg hW.size) (by rw[Jr];omega) (by rw[Jr];omega) (hz _ ⟨i+1,L.length,by rw[IS (by rw[Jr];omega)]⟩)
  rw[Jr] at h;exact h
 have HJT:Hid (∀i W,i<=L.length->Below w.heap.size w W->Calls be 62 #[U (Z ⟨g,0,Y⟩) i c,I ⟨#[46]⟩] W λe w'=>e=sh (I (jB (L.take i)))/\Below W.heap.size W w'):=λi W hi hW=>by
  have h:=xW (L.take i) g 0 c W (λj hj=>by
   rw[Iu] at hj;rw[HC.out W hW j (by omega)];simp[Io,List.getElem?_take_of_lt (show j<i by omega)]) (Iv hg hW.size) (by rw[Iu];omega) (by rw[Iu];omega) (hz _ ⟨0,i,by simp⟩)
  rw[Iu,Nat.min_eq_left hi] at h;exact h
 have hws:=RP L;clear eg hc hz;generalize wW L=G at *;generalize nG L=at' at *;rcases hws with⟨hw,_⟩|⟨i,hi,hw,Fg,_⟩
 .subst hw
  have oq:Hid (G=qE):=HG.out;clear HG HJD HJT HC;go_enter Tryz.func58,Tryz.ntmps58;go_wp2_with fail;refine(HIX.out _ ((Ib _ _).alloc (By _) _)).mono ?_;rintro e w1 ⟨rfl,al⟩;obtain⟨f0,f1,f2,f3,aR,eY⟩:=Ch al;obtain⟨eu,gF⟩:=xX al;have z0:=gF 0;have z1:=gF 1;have z2:=gF 2;have z3:=gF 3;clear al gF eu;go_wp2_with fail;exact Ix (v:=Im #[I ⟨#[]⟩,I ⟨#[]⟩,I ⟨#[]⟩,I ⟨#[]⟩]) (by simp[results,Tryz.results58,go_sem,f0,f1,f2,f3]) rfl ⟨by rw[oq.out];rfl,(((aR.out.setCell (p:=⟨w.heap.size,0,Y⟩) (By _) _).setCell (p:=⟨w.heap.size,1,Y⟩) (By _) _).setCell (p:=⟨w.heap.size,2,Y⟩) (By _) _).setCell (p:=⟨w.heap.size,3,Y⟩) (By _) _⟩
 .subst hw
  have e1:((i:Int)).toNat=i:=by omega
  by_cases h1:(i:Int)<1
  .have oq:Hid (G=qE):=(show G=qE by rw[HG.out,if_pos h1])
   have ei:i=0:=by omega
   subst ei;clear HG HJD HJT HC;go_enter Tryz.func58,Tryz.ntmps58;go_wp2_with fail;refine(HIX.out _ ((Ib _ _).alloc (By _) _)).mono ?_;rintro e w1 ⟨rfl,al⟩;obtain⟨f0,f1,f2,f3,aR,eY⟩:=Ch al;obtain⟨eu,gF⟩:=xX al;have z0:=gF 0;have z1:=gF 1;have z2:=gF 2;have z3:=gF 3;clear al gF eu;go_wp2_with fail;exact Ix (v:=Im #[I ⟨#[]⟩,I ⟨#[]⟩,I ⟨#[]⟩,I ⟨#[]⟩]) (by simp[results,Tryz.results58,go_sem,f0,f1,f2,f3]) rfl ⟨by rw[oq.out];rfl,(((aR.out.setCell (p:=⟨w.heap.size,0,Y⟩) (By _) _).setCell (p:=⟨w.heap.size,1,Y⟩) (By _) _).setCell (p:=⟨w.heap.size,2,Y⟩) (By _) _).setCell (p:=⟨w.heap.size,3,Y⟩) (By _) _⟩
  .have hh:=HG.out
   rw[if_neg h1,e1] at hh;go_enter Tryz.func58,Tryz.ntmps58;go_wp2_with fail;refine(HIX.out _ ((Ib _ _).alloc (By _) _)).mono ?_;rintro e w1 ⟨rfl,al⟩;obtain⟨f0,f1,f2,f3,aR,eY⟩:=Ch al;obtain⟨eu,gF⟩:=xX al;have z0:=gF 0;have z1:=gF 1;have z2:=gF 2;have z3:=gF 3;clear al gF eu;go_wp2_with fail;refine(HJD.out i _ hi aR.out).mono ?_;rintro e w2 ⟨rfl,aC⟩;have bw:Hid (Below w.heap.size w w2):=aR.out.trans (aC.mono (J8 eY));have mS:Hid (Below w1.heap.size w1 w2):=aC;have g0:=(aC.cell (p:=⟨w.heap.size,0,Y⟩) eY).trans f0;have g1:=(aC.cell (p:=⟨w.heap.size,1,Y⟩) eY).trans f1;have g2:=(aC.cell (p:=⟨w.heap.size,2,Y⟩) eY).trans f2;have g3:=(aC.cell (p:=⟨w.heap.size,3,Y⟩) eY).trans f3;have y0:=(aC.frozen (p:=⟨w.heap.size,0,Y⟩) eY).trans z0;have y1:=(aC.frozen (p:=⟨w.heap.size,1,Y⟩) eY).trans z1;have y2:=(aC.frozen (p:=⟨w.heap.size,2,Y⟩) eY).trans z2;have y3:=(aC.frozen (p:=⟨w.heap.size,3,Y⟩) eY).trans z3;have ci:=HC.out w2 bw.out i hi;have cm:=HC.out w2 bw.out (i-1) (by omega);rw[IM] at ci cm;have iL:g<w2.heap.size:=Iv hg bw.out.size;have fG:w.heap.size<w2.heap.size:=Iv eY mS.out.size;have e0:g≠w2.heap.size:=by omega
   have e2:w.heap.size≠w2.heap.size:=by omega
   have hwm:IntKind.i64.wrap ((i:Int)-1)=((i-1:Nat):Int):=by rw[IK];omega
   have him:((i-1:Nat):Int)<(L.length:Int):=by omega
   have ajA:(0:Int)<=((i-1:Nat):Int):=by omega
   have hic:((i-1:Nat):Int)<=(c:Int):=by omega
   have HJ2:Hid (∀W,Below w.heap.size w W->Calls be 62 #[U (Z ⟨g,0,Y⟩) (i-1) c,I ⟨#[46]⟩] W λe w'=>e=sh (I (jB (L.take (i-1))))/\Below W.heap.size W w'):=λW hW=>HJT.out (i-1) W (by omega) hW;clear f0 f1 f2 f3 z0 z1 z2 z3 aC HC HJD HJT HG;have HGG:Hid (G=if L.getD i Ih=eG then⟨⟨#[]⟩,⟨#[]⟩,L.getD (i-1) Ih,jB (L.drop (i+1))⟩ else⟨L.getD (i-1) Ih,jB (L.take (i-1)),⟨#[]⟩,jB (L.drop (i+1))⟩):=hh;clear hh;generalize hli:L.getD i Ih=li at *;generalize L.getD (i-1) Ih=lm at *;generalize jB (L.drop (i+1))=jd at *;generalize jB (L.take (i-1))=jt at *;clear hli;generalize zJ:i-1=m at *;clear zJ;by_cases so:li=eG
   .subst so
    have oq:Hid (G=⟨⟨#[]⟩,⟨#[]⟩,lm,jd⟩):=HGG.out;clear HGG HJ2;go_wp2_with fail;exact Ix (v:=Im #[I ⟨#[]⟩,I ⟨#[]⟩,I lm,I jd]) (by simp[results,Tryz.results58,go_sem,g0,g1,g2,g3,ve,fG]) rfl ⟨by rw[oq.out],((((bw.out.setCell (p:=⟨w.heap.size,0,Y⟩) (By _) _).setCell (p:=⟨w.heap.size,1,Y⟩) (By _) _).setCell (p:=⟨w.heap.size,2,Y⟩) (By _) _).setCell (p:=⟨w.heap.size,3,Y⟩) (By _) _).alloc (by simp;omega) _⟩
   .have oq:Hid (G=⟨lm,jt,⟨#[]⟩,jd⟩):=(show G=_ by rw[HGG.out,if_neg so])
    obtain⟨b1,b2⟩:=FP so;clear HGG so Fg;go_wp2_with fail;refine(HJ2.out _ (bw.out.alloc (by omega) _)).mono ?_;rintro e w3 ⟨rfl,bf⟩;obtain⟨q0,q1,q2,q3,da,Hn⟩:=Ch bf;obtain⟨_,qz⟩:=xX bf;have r0:=(da.out.cell (p:=⟨w.heap.size,0,Y⟩) fG).trans g0;have r1:=(da.out.cell (p:=⟨w.heap.size,1,Y⟩) fG).trans g1;have r2:=(da.out.cell (p:=⟨w.heap.size,2,Y⟩) fG).trans g2;have r3:=(da.out.cell (p:=⟨w.heap.size,3,Y⟩) fG).trans g3;have x0:=(da.out.frozen (p:=⟨w.heap.size,0,Y⟩) fG).trans y0;have x1:=(da.out.frozen (p:=⟨w.heap.size,1,Y⟩) fG).trans y1;have x2:=(da.out.frozen (p:=⟨w.heap.size,2,Y⟩) fG).trans y2;have x3:=(da.out.frozen (p:=⟨w.heap.size,3,Y⟩) fG).trans y3;have Eb:=qz 1;have HBT:Hid (Below w.heap.size w w3):=bw.out.trans (da.out.mono (J8 fG));clear g0 g1 g2 g3 y0 y1 y2 y3 bf ci cm HJ2 qz;go_wp2_with fail;exact Ix (v:=Im #[I lm,I jt,I ⟨#[]⟩,I jd]) (by simp[results,Tryz.results58,go_sem,r0,r1,r2,r3]) rfl ⟨by rw[oq.out],((((HBT.out.setCell (p:=⟨w2.heap.size,1,Y⟩) (J8 fG) _).setCell (p:=⟨w.heap.size,0,Y⟩) (By _) _).setCell (p:=⟨w.heap.size,1,Y⟩) (By _) _).setCell (p:=⟨w.heap.size,2,Y⟩) (By _) _).setCell (p:=⟨w.heap.size,3,Y⟩) (By _) _⟩
end Go.Proofs.YtfidjlcdlakceaaGreatDoor
namespace Go.Proofs.YtfidjlcdlakceaaGreatDoor
open Go.RowKit
def nY(s:ByteArray):List ByteArray:=(gN s.data.toList).map mk
def wg(s:ByteArray):Qu:=wW (nY s).dropLast
def lst(s:ByteArray):ByteArray:=(nY s).getD ((nY s).length-1) Ih
def eZ(s:ByteArray):Int:=if bT s=0 then(if lst s=gM then(if jk (wg s)=0/\iy (wg s)=s then 0 else 1) else 8) else bT s
def dx(s:ByteArray):Qu:=if eZ s=0 then wg s else qE
theorem gh{s:ByteArray}(h:bT s=0):s.size<=120/\(gN s.data.toList).length<=8/\∀x∈gN s.data.toList,x.length<=30:=by
 unfold bT at h;by_cases h0:s.size=0
 .have:=cO h0
  subst this;exact⟨by omega,by decide,by decide⟩
 .rw[if_neg h0] at h
  by_cases h1:(gN s.data.toList).all jY=false
  .rw[if_pos h1] at h;omega
  .rw[if_neg h1] at h
   by_cases h2:8<(gN s.data.toList).length\/120<s.size
   .rw[if_pos h2] at h;omega
   .refine⟨by omega,by omega,λx hx=>?_⟩
    have h3:(gN s.data.toList).all jY=true:=by simpa using h1
    exact(Ge (J5.1 h3 x hx)).2
theorem tj(s:ByteArray):(nY s).length=(gN s.data.toList).length:=by unfold nY;rw[Oy]
theorem V2(s:ByteArray):0<(nY s).length:=by rw[tj];exact List.length_pos_iff.2 (ye _)
theorem xY{s:ByteArray}(h:bT s=0):∀x∈nY s,x.size<=30:=λx hx=>by
 obtain⟨y,hy,rfl⟩:=QH.1 hx;rw[gZ];exact(gh h).2.2 y hy
theorem xZ{L:List ByteArray}(hn:L.length<=8)(h:∀x∈L,x.size<=30){a b:Nat}:(jn (((L.drop a).take b).map bytes)).length<=248:=by
 refine Ir (FT _ λx hx=>?_) ?_
 .obtain⟨y,hy,rfl⟩:=QH.1 hx
  have:=h y (List.mem_of_mem_drop (Jm hy));simpa[bytes] using this
 .rw[Oy,Iu,Jr];omega
theorem EK{L:List ByteArray}(h:∀x∈L,x.size<=30)(j:Nat):(L.getD j Ih).size<=30:=by
 by_cases hj:j<L.length
 .rw[show L.getD j Ih=L[j] by simp[Io,Ic hj]]
  exact h _ (IV hj)
 .rw[show L.getD j Ih=Ih by simp[Io,IP (by omega:L.length<=j)]];decide
theorem Cl{L:List ByteArray}(hn:L.length<=8)(h:∀x∈L,x.size<=30)(a b:Nat):(jB ((L.drop a).take b)).size<=248:=by
 unfold jB;rw[gZ];exact xZ hn h
theorem RQ{L:List ByteArray}(hn:L.length<=8)(h:∀x∈L,x.size<=30):(wW L).ok:=by
 have hd:∀a,(jB (L.drop a)).size<=248:=λa=>by
  have:=Cl hn h a L.length
  rwa [IS (by rw[Jr];omega)] at this
 have ht:∀a,(jB (L.take a)).size<=248:=λa=>by
  have:=Cl hn h 0 a
  rwa [List.drop_zero] at this
 have hg:=EK h;have e0:(JZ #[]).size=0:=rfl;unfold wW;split
 .exact⟨by decide,by decide,by decide,by decide⟩
 .have h1:=hd ((nG L).toNat+1)
  have h2:=ht ((nG L).toNat-1);have h3:=hg ((nG L).toNat-1);split
  .refine⟨?_,?_,?_,?_⟩<;>unfold Ij<;>simp only[e0]<;>omega
  .refine⟨?_,?_,?_,?_⟩<;>unfold Ij<;>simp only[e0]<;>omega
theorem qQ(s:ByteArray)(w:World)(hm:ML w)(hs:s.size<=Ij) :
 Calls be 22 #[I s] w λe w'=>e=sh (Il #[Im #[I (dx s).service,I (dx s).tag,I (dx s).node,I (dx s).ai],O J (eZ s)])/\Below w.heap.size w w':=by
 have Sw:Hid (∀W,Calls be 25 #[I s] W λe w'=>e=sh (O J (bT s))/\Below W.heap.size W w'):=λW=>iM s W hs;by_cases h0:bT s=0
 .obtain⟨b1,b2,_⟩:=gh h0
  have P0:Hid (∀W,Below w.heap.size w W->Calls be 57 #[I s,I ⟨#[46]⟩] W λe w'=>e=sh (U (Z ⟨W.heap.size,0,Y⟩) (nY s).length (nY s).length)/\w'=W.alloc (AT ((nY s).map I).toArray 9)):=λW hW=>by
   have h:=xV s W (hm.below hW) (by omega);rw[<- tj] at h;exact h
  have hlen:(nY s).length<=8:=by rw[tj];exact b2
  have RU:=xY h0;have nH:=V2 s;have hdl:(nY s).dropLast.length=(nY s).length-1:=List.length_dropLast;have hdm:∀x∈(nY s).dropLast,x.size<=30:=λx hx=>RU x ((List.dropLast_sublist _).subset hx);have HGU:Hid (∀(g:Nat) (W:World),W.heap[g]?=Z (AT ((nY s).map I).toArray 9 (0,0))->Calls be 58 #[U (Z ⟨g,0,Y⟩) ((nY s).length-1) (nY s).length] W λe w'=>e=sh (Im #[I (wg s).service,I (wg s).tag,I (wg s).node,I (wg s).ai])/\Below W.heap.size W w'):=λg W hg=>by
   have h:=LO (nY s).dropLast g (nY s).length W (λj hj=>by
    rw[IM,af hg];have vy:j<(nY s).length:=by omega
    simp[Io,vy,show j<(nY s).length-1 by omega]) (Ia.1 hg).1 (by omega) (by omega) (λL' ⟨a,b,e⟩=>by
    rw[e];exact Ir (xZ (by omega) hdm) (by omega))
   rw[hdl] at h;exact h
  have XA:Hid (∀W,Calls be 8 #[Im #[I (wg s).service,I (wg s).tag,I (wg s).node,I (wg s).ai]] W λe w'=>e=sh (Il #[I (iy (wg s)),O J (jk (wg s))])/\Below W.heap.size W w'):=λW=>nz (wg s) W (RQ (by omega) hdm);have HE:Hid (eZ s=if lst s=gM then(if jk (wg s)=0/\iy (wg s)=s then 0 else 1) else 8):=(show eZ s=_ by unfold eZ;rw[if_pos h0]);have HQ:Hid (dx s=if eZ s=0 then wg s else qE):=rfl;have HLA:Hid (∀(g:Nat) (W:World),W.heap[g]?=Z (AT ((nY s).map I).toArray 9 (0,0))->W.cell? ⟨g,(nY s).length-1,Y⟩=Z (I (lst s))):=λg W hg=>by
   rw[af hg];have vy:(nY s).length-1<(nY s).length:=by omega
   simp[lst,Io,vy]
  rw[h0] at Sw;clear RU hdl hdm b1 b2 hm h0;generalize eZ s=E at *;generalize dx s=Q at *;generalize jk (wg s)=pe at *;generalize iy (wg s)=ps at *;generalize wg s=q at *;generalize lst s=la at *;generalize hLL:(nY s).map I=LV at *;clear hLL;generalize(nY s).length=n at *;obtain⟨qs,qt,qn,qc⟩:=q;simp only at HGU XA HQ;go_enter Tryz.func22,Tryz.ntmps22;go_wp2_with fail;refine(Sw.out _).mono ?_;rintro e w1 ⟨rfl,al⟩;obtain⟨f0,f1,f2,f3,aR,eY⟩:=Ch al;obtain⟨_,gF⟩:=xX al;have z0:=gF 0;have z1:=gF 1;have z2:=gF 2;have z3:=gF 3;clear al gF;go_wp2_with fail;refine(P0.out _ aR.out).mono ?_;rintro e w2 ⟨rfl,rH⟩;have mS:Hid (Below w1.heap.size w1 w2):=(show Below _ _ _ by rw[rH];exact(Ib _ _).alloc (By _) _);have jZ:w2.heap[w1.heap.size]?=Z (AT LV.toArray 9 (0,0)):=by rw[rH];exact Ie w1 _
  have HGL:Hid (w2.heap[w1.heap.size]?=Z (AT LV.toArray 9 (0,0))):=jZ;have cl:=HLA.out _ _ jZ;have fG:w.heap.size<w2.heap.size:=Iv eY mS.out.size;have bw:Hid (Below w.heap.size w w2):=aR.out.trans (mS.out.mono (J8 eY));have g0:=(mS.out.cell (p:=⟨w.heap.size,0,Y⟩) eY).trans f0;have g1:=(mS.out.cell (p:=⟨w.heap.size,1,Y⟩) eY).trans f1;have g2:=(mS.out.cell (p:=⟨w.heap.size,2,Y⟩) eY).trans f2;have g3:=(mS.out.cell (p:=⟨w.heap.size,3,Y⟩) eY).trans f3;have y0:=(mS.out.frozen (p:=⟨w.heap.size,0,Y⟩) eY).trans z0;have y1:=(mS.out.frozen (p:=⟨w.heap.size,1,Y⟩) eY).trans z1;have y2:=(mS.out.frozen (p:=⟨w.heap.size,2,Y⟩) eY).trans z2;have y3:=(mS.out.frozen (p:=⟨w.heap.size,3,Y⟩) eY).trans z3;have hwm:IntKind.i64.wrap ((n:Int)-1)=((n-1:Nat):Int):=by rw[IK];omega
  have him:((n-1:Nat):Int)<(n:Int):=by omega
  have ajA:(0:Int)<=((n-1:Nat):Int):=by omega
  have hic:((n-1:Nat):Int)<=(n:Int):=by omega
  clear f0 f1 f2 f3 z0 z1 z2 z3 jZ rH P0 HLA;generalize zJ:n-1=m at *;clear zJ;by_cases oV:la=gM
  .have iN:Hid (E=if pe=0/\ps=s then 0 else 1):=(show E=_ by rw[HE.out,if_pos oV])
   subst oV;clear HE;go_wp2_with fail;refine(HGU.out _ _ HGL.out).mono ?_;rintro e w3 ⟨rfl,bf⟩;have r0:=(bf.cell (p:=⟨w.heap.size,0,Y⟩) fG).trans g0;have r1:=(bf.cell (p:=⟨w.heap.size,1,Y⟩) fG).trans g1;have r2:=(bf.cell (p:=⟨w.heap.size,2,Y⟩) fG).trans g2;have r3:=(bf.cell (p:=⟨w.heap.size,3,Y⟩) fG).trans g3;have x0:=(bf.frozen (p:=⟨w.heap.size,0,Y⟩) fG).trans y0;have x1:=(bf.frozen (p:=⟨w.heap.size,1,Y⟩) fG).trans y1;have x2:=(bf.frozen (p:=⟨w.heap.size,2,Y⟩) fG).trans y2;have x3:=(bf.frozen (p:=⟨w.heap.size,3,Y⟩) fG).trans y3;have Hn:w.heap.size<w3.heap.size:=Iv fG bf.size;have da:Hid (Below w.heap.size w w3):=bw.out.trans (bf.mono (J8 fG));clear g0 g1 g2 g3 y0 y1 y2 y3 bf cl HGL HGU;go_wp2_with fail;refine(XA.out _).mono ?_;rintro e w4 ⟨rfl,fa⟩;obtain⟨q0,q1,q2,q3,zA,apd⟩:=Ch fa;have g0:=(zA.out.cell (p:=⟨w.heap.size,0,Y⟩) Hn).trans r0;have g1:=(zA.out.cell (p:=⟨w.heap.size,1,Y⟩) Hn).trans r1;have g2:=(zA.out.cell (p:=⟨w.heap.size,2,Y⟩) Hn).trans r2;have g3:=(zA.out.cell (p:=⟨w.heap.size,3,Y⟩) Hn).trans r3;have y0:=(zA.out.frozen (p:=⟨w.heap.size,0,Y⟩) Hn).trans x0;have y1:=(zA.out.frozen (p:=⟨w.heap.size,1,Y⟩) Hn).trans x1;have y2:=(zA.out.frozen (p:=⟨w.heap.size,2,Y⟩) Hn).trans x2;have y3:=(zA.out.frozen (p:=⟨w.heap.size,3,Y⟩) Hn).trans x3;have gJ:Hid (Below w.heap.size w w4):=da.out.trans (zA.out.mono (J8 Hn));clear r0 r1 r2 r3 x0 x1 x2 x3 fa XA;by_cases hpe:pe=0
   .subst hpe
    by_cases hps:ps=s
    .subst hps
     have CC:Hid (E=0):=(show E=0 by rw[iN.out];simp);have HQ2:Hid (Q=⟨qs,qt,qn,qc⟩):=(show Q=_ by rw[HQ.out,CC.out];rfl);clear iN HQ;go_wp2_with fail;exact Ix (v:=Il #[Im #[I qs,I qt,I qn,I qc],O J 0]) (by simp[results,Tryz.results22,go_sem,g0,g1,g2,g3]) rfl ⟨by rw[CC.out,HQ2.out];try rfl,(((gJ.out.setCell (p:=⟨w.heap.size,0,Y⟩) (By _) _).setCell (p:=⟨w.heap.size,1,Y⟩) (By _) _).setCell (p:=⟨w.heap.size,2,Y⟩) (By _) _).setCell (p:=⟨w.heap.size,3,Y⟩) (By _) _⟩
    .have CC:Hid (E=1):=(show E=1 by rw[iN.out,if_neg (λh=>hps h.2)])
     have HQ2:Hid (Q=qE):=(show Q=qE by rw[HQ.out,CC.out];rfl);obtain⟨k1,k2⟩:=hY hps;clear iN HQ hps;go_wp2_with fail;exact Ix (v:=Il #[Im #[I ⟨#[]⟩,I ⟨#[]⟩,I ⟨#[]⟩,I ⟨#[]⟩],O J 1]) (by simp[results,Tryz.results22,go_sem,g0,g1,g2,g3]) rfl ⟨by rw[CC.out,HQ2.out];try rfl,(((gJ.out.setCell (p:=⟨w.heap.size,0,Y⟩) (By _) _).setCell (p:=⟨w.heap.size,1,Y⟩) (By _) _).setCell (p:=⟨w.heap.size,2,Y⟩) (By _) _).setCell (p:=⟨w.heap.size,3,Y⟩) (By _) _⟩
   .have CC:Hid (E=1):=(show E=1 by rw[iN.out,if_neg (λh=>hpe h.1)])
    have HQ2:Hid (Q=qE):=(show Q=qE by rw[HQ.out,CC.out];rfl);have k1:(pe==0)=false:=by simpa using hpe
    clear iN HQ;go_wp2_with fail;exact Ix (v:=Il #[Im #[I ⟨#[]⟩,I ⟨#[]⟩,I ⟨#[]⟩,I ⟨#[]⟩],O J 1]) (by simp[results,Tryz.results22,go_sem,g0,g1,g2,g3]) rfl ⟨by rw[CC.out,HQ2.out];try rfl,(((gJ.out.setCell (p:=⟨w.heap.size,0,Y⟩) (By _) _).setCell (p:=⟨w.heap.size,1,Y⟩) (By _) _).setCell (p:=⟨w.heap.size,2,Y⟩) (By _) _).setCell (p:=⟨w.heap.size,3,Y⟩) (By _) _⟩
  .have iN:Hid (E=8):=(show E=_ by rw[HE.out,if_neg oV])
   have HQ2:Hid (Q=qE):=(show Q=qE by rw[HQ.out,iN.out];rfl);obtain⟨m1,m2⟩:=V1 oV;clear HE HQ oV;go_wp2_with fail;exact Ix (v:=Il #[Im #[I ⟨#[]⟩,I ⟨#[]⟩,I ⟨#[]⟩,I ⟨#[]⟩],O J 8]) (by simp[results,Tryz.results22,go_sem,g0,g1,g2,g3]) rfl ⟨by rw[iN.out,HQ2.out];rfl,(((bw.out.setCell (p:=⟨w.heap.size,0,Y⟩) (By _) _).setCell (p:=⟨w.heap.size,1,Y⟩) (By _) _).setCell (p:=⟨w.heap.size,2,Y⟩) (By _) _).setCell (p:=⟨w.heap.size,3,Y⟩) (By _) _⟩
 .have HE:Hid (eZ s=bT s):=(show eZ s=_ by unfold eZ;rw[if_neg h0])
  have HQ:Hid (dx s=qE):=(show dx s=qE by unfold dx;rw[if_neg (by rw[HE.out];exact h0)]);rw[HE.out,HQ.out];have h1:(bT s==0)=false:=by simpa using h0
  clear HE HQ;generalize bT s=r at *;go_enter Tryz.func22,Tryz.ntmps22;go_wp2_with fail;refine(Sw.out _).mono ?_;rintro e w1 ⟨rfl,al⟩;obtain⟨f0,f1,f2,f3,aR,eY⟩:=Ch al;obtain⟨_,gF⟩:=xX al;have z0:=gF 0;have z1:=gF 1;have z2:=gF 2;have z3:=gF 3;clear al gF;go_wp2_with fail;exact Ix (v:=Il #[Im #[I ⟨#[]⟩,I ⟨#[]⟩,I ⟨#[]⟩,I ⟨#[]⟩],O J r]) (by simp[results,Tryz.results22,go_sem,f0,f1,f2,f3]) rfl ⟨rfl,(((aR.out.setCell (p:=⟨w.heap.size,0,Y⟩) (By _) _).setCell (p:=⟨w.heap.size,1,Y⟩) (By _) _).setCell (p:=⟨w.heap.size,2,Y⟩) (By _) _).setCell (p:=⟨w.heap.size,3,Y⟩) (By _) _⟩
abbrev FU:ByteArray:=⟨#[116,46,115,46,115,101,114,118,105,99,101,46,99,46,109,101,115,104]⟩
theorem RV:eZ FU=0:=by kernel_rfl
theorem abW:dx FU=⟨⟨#[115]⟩,⟨#[116]⟩,⟨#[]⟩,⟨#[99]⟩⟩:=by kernel_rfl
theorem uW(w:World)(hm:ML w):Calls be 7 #[] w λe w'=>e=sh (AI true)/\Below w.heap.size w w':=by
 have HP:Hid (∀W,Below w.heap.size w W->Calls be 22 #[I FU] W λe w'=>e=sh (Il #[Im #[I ⟨#[115]⟩,I ⟨#[116]⟩,I ⟨#[]⟩,I ⟨#[99]⟩],O J 0])/\Below W.heap.size W w'):=λW hW=>by
  have h:=qQ FU W (hm.below hW) (by decide);rw[RV,abW] at h;exact h
 go_enter Tryz.func7,Tryz.ntmps7;go_wp2_with fail;refine(HP.out _ (Ib _ _)).mono ?_;rintro e w1 ⟨rfl,al⟩;have aR:Hid (Below w.heap.size w w1):=al;clear al;go_wp2_with fail;go_ret;exact⟨rfl,aR.out.alloc aR.out.size _⟩
theorem vh(x:ByteArray):jB [x]=x:=mk_data x
theorem RW{x:ByteArray}(h:iH x=false):gY x=false:=by
 have h2:=λe=>(Bool.eq_false_iff.1 h) ((RM x).2 e);simp only[gY,Ug,decide_eq_false_iff_not];exact⟨λe=>h2 (.inl e),λe=>h2 (.inr (.inl e))⟩
theorem abX{x:ByteArray}(h:ru x=false):gY x=false:=by
 have h2:=λe=>(Bool.eq_false_iff.1 h) ((RJ x).2 e);simp only[gY,Ug,decide_eq_false_iff_not];exact⟨λe=>h2 (.inl e),λe=>h2 (.inr e)⟩
theorem tl:gY eF=true:=by simp[gY]
theorem FV:gY eG=true:=by simp[gY]
theorem V3{s:ByteArray}(h:fF s=true)(h0:s.size≠0):46 ∉ bytes s:=by
 have h1:aN s=true:=by
  unfold fF at h;simp only[O2,decide_eq_true_eq] at h;rcases h with rfl|h
  .exact absurd rfl h0
  .exact h
 exact Gd (l:=bytes s) (by unfold jY;rw[show mk (bytes s)=s from mk_data s];exact h1)
theorem mU{s:ByteArray}(h:fF s=true):∀x∈opt s,46 ∉ x:=λx hx=>by
 unfold opt at hx;by_cases h0:s.size=0
 .rw[if_pos h0] at hx;cases hx
 .rw[if_neg h0,J1] at hx
  subst hx;exact V3 h h0
theorem V4{q:Qu}(h:fo q=0):nY (prt q)=(uX q).map mk:=by
 obtain⟨_,z1,z2,z3,z4,_⟩:=kE h;unfold nY prt;rw[jQ,Mu]
 .unfold uX;split<;>simp
 .intro x hx
  unfold uX at hx;split at hx
  .simp only[JU,J1] at hx
   rcases hx with h|h|h|h|h
   .exact mU z2 x h
   .exact mU z1 x h
   .subst h;decide
   .exact mU z4 x h
   .subst h;decide
  .simp only[JU,J1] at hx
   rcases hx with h|h|h|h
   .exact mU z3 x h
   .subst h;decide
   .exact mU z4 x h
   .subst h;decide
theorem LP{q:Qu}(h:fo q=0):lst (prt q)=gM/\wg (prt q)=q:=by
 have hl:=V4 h;obtain⟨zf,_,_,_,_,zw⟩:=kE h;obtain⟨sv,tg,nd,ce⟩:=q;have hw:ru nd=false/\iH tg=false/\iH sv=false/\iH ce=false:=by
  have h2:(ru nd||iH tg||iH sv||iH ce)=false:=zw;simpa[Ug,and_assoc] using h2
 obtain⟨w1,w2,w3,_⟩:=hw;have d1:=abX w1;have d2:=RW w2;have d3:=RW w3;have sn:¬ eF=eG:=by decide
 have m1:mk pR=eF:=rfl;have m2:mk iK=gM:=rfl;have m3:mk pS=eG:=rfl;have mb:∀s:ByteArray,mk (bytes s)=s:=mk_data;unfold yS at zf;simp only at zf;unfold lst wg;rw[hl];unfold uX;simp only;by_cases hn:nd.size=0
 .have hs:sv.size≠0:=λhs=>by simp[hn,hs] at zf
  rw[if_pos hn,iv hs];have en:=cO hn;subst en;by_cases ht:tg.size=0<;>by_cases hc:ce.size=0
  .have et:=cO ht
   have ec:=cO hc;subst et ec;rw[mT ht];simp only[Qr,OQ,OU,Ud,m1,m2,mb];refine⟨rfl,?_⟩;show wW [sv,eF]=_;have GR:nG [sv,eF]=1:=by simp[nG,Lib.idxBy,OW,d3,tl]
   unfold wW;rw[GR,if_neg (by decide)];refine(if_neg ?hh).trans ?_
   case hh=>exact sn
   rfl
  .have et:=cO ht
   subst et;rw[mT ht,iv hc];simp only[Qr,OQ,OU,Ud,m1,m2,mb];refine⟨rfl,?_⟩;show wW [sv,eF,ce]=_;have GR:nG [sv,eF,ce]=1:=by simp[nG,Lib.idxBy,OW,d3,tl]
   unfold wW;rw[GR,if_neg (by decide)];refine(if_neg ?hh).trans ?_
   case hh=>exact sn
   show Qu.mk sv (jB []) ⟨#[]⟩ (jB [ce])=_;rw[vh];rfl
  .have ec:=cO hc
   subst ec;rw[iv ht,mT hc];simp only[Qr,OQ,OU,Ud,m1,m2,mb];refine⟨rfl,?_⟩;show wW [tg,sv,eF]=_;have GR:nG [tg,sv,eF]=2:=by simp[nG,Lib.idxBy,OW,d2,d3,tl]
   unfold wW;rw[GR,if_neg (by decide)];refine(if_neg ?hh).trans ?_
   case hh=>exact sn
   show Qu.mk sv (jB [tg]) ⟨#[]⟩ (jB [])=_;rw[vh];rfl
  .rw[iv ht,iv hc]
   simp only[Qr,OQ,OU,Ud,m1,m2,mb];refine⟨rfl,?_⟩;show wW [tg,sv,eF,ce]=_;have GR:nG [tg,sv,eF,ce]=2:=by simp[nG,Lib.idxBy,OW,d2,d3,tl]
   unfold wW;rw[GR,if_neg (by decide)];refine(if_neg ?hh).trans ?_
   case hh=>exact sn
   show Qu.mk sv (jB [tg]) ⟨#[]⟩ (jB [ce])=_;rw[vh,vh]
 .have hs:sv.size=0:=by
   by_cases hs:sv.size=0
   .exact hs
   .simp[hn,hs] at zf
  have ht:tg.size=0:=by
   by_cases ht:tg.size=0
   .exact ht
   .simp[hn,hs,ht] at zf
  have es:=cO hs;have et:=cO ht;subst es et;rw[if_neg hn,iv hn];by_cases hc:ce.size=0
  .have ec:=cO hc
   subst ec;rw[mT hc];simp only[Qr,OQ,OU,Ud,m2,m3,mb];refine⟨rfl,?_⟩;show wW [nd,eG]=_;have GR:nG [nd,eG]=1:=by simp[nG,Lib.idxBy,OW,d1,FV]
   unfold wW;rw[GR,if_neg (by decide)];refine(if_pos ?hh).trans ?_
   case hh=>exact rfl
   rfl
  .rw[iv hc]
   simp only[Qr,OQ,OU,Ud,m2,m3,mb];refine⟨rfl,?_⟩;show wW [nd,eG,ce]=_;have GR:nG [nd,eG,ce]=1:=by simp[nG,Lib.idxBy,OW,d1,FV]
   unfold wW;rw[GR,if_neg (by decide)];refine(if_pos ?hh).trans ?_
   case hh=>exact rfl
   show Qu.mk ⟨#[]⟩ ⟨#[]⟩ nd (jB [ce])=_;rw[vh]
theorem B9{q:Qu}(h:jk q=0):eZ (iy q)=0/\dx (iy q)=q:=by
 have hs:iy q=prt q:=if_pos h;have hq:fo q=0:=by
  unfold jk at h;by_cases h0:fo q=0
  .exact h0
  .rw[if_neg h0] at h;exact h
 have hn:bT (prt q)=0:=by unfold jk at h;rwa [if_pos hq] at h
 obtain⟨h1,h2⟩:=LP hq;have he:eZ (prt q)=0:=by
  unfold eZ;rw[if_pos hn,if_pos h1,h2,if_pos ⟨h,hs⟩]
 rw[hs];refine⟨he,?_⟩;unfold dx;rw[if_pos he,h2]
theorem FA(s:ByteArray):(dx s).ok:=by
 unfold dx;by_cases h:eZ s=0
 .rw[if_pos h]
  have h0:bT s=0:=by
   by_cases h0:bT s=0
   .exact h0
   .unfold eZ at h;rw[if_neg h0] at h;exact h
  have hl:(nY s).length<=8:=by rw[tj];exact(gh h0).2.1
  have hd:(nY s).dropLast.length=(nY s).length-1:=List.length_dropLast;exact RQ (by omega) (λx hx=>xY h0 x ((List.dropLast_sublist _).subset hx))
 .rw[if_neg h]
  exact⟨by decide,by decide,by decide,by decide⟩
end Go.Proofs.YtfidjlcdlakceaaGreatDoor
namespace Go.Proofs
open Go.Shelf
def Tryz.zB:Oq:=⟨fun|146=>57|221=>111|268=>165|138=>67|143=>122|195=>120|197=>230|218=>121|219=>170|260=>260|217=>233|225=>234|224=>235|267=>236|266=>261|314=>262|n=>n,fun|9=>9|31=>111|3=>3|4=>4|0=>0|105=>272|21=>21|5=>5|46=>192|119=>315|139=>318|138=>317|146=>294|51=>260|n=>n,fun|1=>0|3=>1|4=>2|n=>n⟩
theorem Tryz.RX:Go.Proofs.LaysM.n146 be Tryz.zB:={
 mixed:=by kernel_rfl
 f138:=Tryz.func67.trans (congrArg Z (by kernel_rfl))
 f143:=Tryz.func122.trans (congrArg Z (by kernel_rfl))
 f146:=Tryz.func57.trans (congrArg Z (by kernel_rfl))
 f195:=Tryz.func120.trans (congrArg Z (by kernel_rfl))
 f197:=Tryz.func230.trans (congrArg Z (by kernel_rfl))
 f217:=Tryz.func233.trans (congrArg Z (by kernel_rfl))
 f218:=Tryz.func121.trans (congrArg Z (by kernel_rfl))
 f219:=Tryz.func170.trans (congrArg Z (by kernel_rfl))
 f221:=Tryz.func111.trans (congrArg Z (by kernel_rfl))
 f224:=Tryz.func235.trans (congrArg Z (by kernel_rfl))
 f225:=Tryz.func234.trans (congrArg Z (by kernel_rfl))
 f260:=Tryz.func260.trans (congrArg Z (by kernel_rfl))
 f266:=Tryz.func261.trans (congrArg Z (by kernel_rfl))
 f267:=Tryz.func236.trans (congrArg Z (by kernel_rfl))
 f268:=Tryz.func165.trans (congrArg Z (by kernel_rfl))
 f314:=Tryz.func262.trans (congrArg Z (by kernel_rfl))
 t0:=J6
 a0:=O6
 z0:=OP
 v0:=Oh
 t3:=IG
 a3:=J0
 z3:=JN
 v3:=JR
 t4:=Jq
 a4:=Ou
 z4:=Og
 v4:=JS
 t5:=Js
 a5:=Qm
 z5:=O5
 v5:=Ov
 t9:=IE
 a9:=Ob
 z9:=JX
 v9:=J3
 t21:=Tryz.underlying21
 a21:=Tryz.isAgg21
 z21:=Tryz.sizeOf21
 v21:=Tryz.zeroValue21
 t31:=Jt
 a31:=QU
 z31:=QC
 v31:=O4
 t46:=Oz
 a46:=Qy
 z46:=Qf
 v46:=OG
 t51:=OA
 a51:=Qz
 z51:=Qg
 v51:=OH
 t105:=Tryz.underlying272
 a105:=Tryz.isAgg272
 z105:=Tryz.sizeOf272
 v105:=Tryz.zeroValue272
 t119:=Tryz.underlying315
 a119:=Tryz.isAgg315
 z119:=Tryz.sizeOf315
 t138:=Tryz.underlying317
 a138:=Tryz.isAgg317
 z138:=Tryz.sizeOf317
 v138:=Tryz.zeroValue317
 t139:=Tryz.underlying318
 a139:=Tryz.isAgg318
 z139:=Tryz.sizeOf318
 v139:=Tryz.zeroValue318
 t146:=Uy
 a146:=Tryz.isAgg294
 z146:=Tryz.sizeOf294
 v146:=Tryz.zeroValue294
 g1:=by kernel_rfl
 g3:=by kernel_rfl
 g4:=by kernel_rfl
 i0:=by kernel_rfl
 i3:=by kernel_rfl
 i4:=by kernel_rfl
 i5:=by kernel_rfl
 i9:=by kernel_rfl
 i21:=by kernel_rfl
 i31:=by kernel_rfl
 i46:=by kernel_rfl
 i51:=by kernel_rfl
 i105:=by kernel_rfl
 i138:=by kernel_rfl
 i139:=by kernel_rfl
 i146:=by kernel_rfl
 m1:=by kernel_rfl
 s1_3:=λw h=>Go.Proofs.cell_of_shapedOpen_int (zero:=#[O J 0]) (t:=3) h (of_decide_eq_true (by kernel_rfl)) (by kernel_rfl) rfl (by kernel_rfl) (by kernel_rfl) IG
 m3:=by kernel_rfl
 m4:=by kernel_rfl }
end Go.Proofs
namespace Go.Proofs.YtfidjlcdlakceaaGreatDoor
open Go.ChangeShapes Go.WideShapes Go.ChangeAt Go.RowKit
theorem aco{W:World}(h:W.ShapedOpen be):ML W:=by
 obtain⟨m,hm⟩:=Tryz.RX.s1_3 W h;have SI:W.cell? ⟨0,0,Y⟩=Z (O J m):=hm;exact⟨World.block_lt_of_cell? W ⟨0,0,Y⟩ SI,m,SI⟩
theorem oP{H:Type}{enc:Jc×Value->H}{a:Assume}{C:Checked}{os:Os}{f:FuncId}{fn:Func}{s:ChangeSpec}{conds:List PathCond}{apart fresh handsOn again:Bool}{X:World->Array Value->Prop}(own:ownKnob C.prog.godebug=Y)(started:os.Started)(abY:C.prog.inits.idxOf? f=Y)(hfn:C.prog.funcs[f]?=Z fn)(witness:∃(w:World) (tape:Tape) (i:Input),w.os=os/\(w.forCall tape i).Shaped C.prog/\i.vars=[]/\Input.okWide C.prog (w.forCall tape i) .any w.heap.size f i /\ ((s.pre enc C.prog fn conds apart (w.forCall tape i).memory i.args/\X (w.forCall tape i).memory i.args)/\sizedMet enc C.prog fn (OpenSpec.ofChange s) apart (w.forCall tape i).memory i.args)/\a.holds C.prog (lone (Frame.enter C.prog f i.args .normal) [] (w.forCall tape i)))(RY:∀(W:World) (base:Nat) (args:Array Value) (ds gs:List (DataW H)) (before:List MemPlace),W.ShapedOpen C.prog -> (∀(j:Nat) t v,fn.params[j]?=Z t->args[j]?=Z v->Value.okWide C.prog W .any base t v) ->
   DataW.Whole enc C.prog fn.params.toList s.vars apart W args.toList ds gs before ->
   Calls C.prog f args W λe W'=>∃v,e=sh v/\s.post enc C.prog fn apart fresh handsOn again W args v W') :
 ReturnsInHanded a C os f .any (λw args=>(s.pre enc C.prog fn conds apart w args/\X w args)/\sizedMet enc C.prog fn (OpenSpec.ofChange s) apart w args) (s.post enc C.prog fn apart fresh handsOn again):=by
 refine returnsInHanded_of_calls own started abY witness ?_;intro w tape i _ tm _ kM ajD _;obtain⟨_,_,_,fn',ajE,_,_,_,_,Mm⟩:=kM;have e:fn'=fn:=Option.some.inj (ajE.symm.trans hfn);subst e;obtain⟨⟨⟨ds,gs,before,hw,_⟩,_⟩,_⟩:=ajD;refine(RY (w.forCall tape i) w.heap.size i.args ds gs before tm Mm (DataW.Whole.of_heap (w':=w.forCall tape i) (by rfl) hw)).mono λe W' ⟨v,he,hp⟩=>?_;subst he;exact ChangeSpec.post_blind hp
end Go.Proofs.YtfidjlcdlakceaaGreatDoor
