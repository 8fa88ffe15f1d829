import Derived.Test.YtbfghimjdlpicaaGreatDoorna2
set_option maxHeartbeats 1000000
set_option maxRecDepth 100000
open Go.Value renaming agg→Ik,string→Y,int→U,bool→Ia,slice→J,ownBlock→JF
open Go.IntKind renaming i64→O,wrap_i64→I1
open Option renaming some→AI,none→be
open Go renaming info_parts→I9,run_callFunc_extern→OM,maxLen→Io,run_firstCells_some→Uc,grownCap_le_maxLen→Uq,wpList_append_own→IZ
open Go.Proofs.Tryz renaming prog→AS,underlying41→JA,underlying3→IH,underlying45→JW
open Go.Obj renaming cells→By
open Go.Extern.SlicesOverlaps renaming overlaps→OF
open Go.Lib renaming run_overlaps_apart→QF,run_append_grow_zeros→Qk,wpList_append_run→QL,run_eql_slice_nil→Jy
open Go.World renaming shape?→O7,frozen?→It
open Go.Ending renaming returned→AT
open Go.Act renaming eval→Of,put→Oz
open Go.Builtin renaming firstCells→Qu,append_→Ui
open List renaming length_take→IE,getElem?_take→Qz,size_toArray→J5,append_assoc→Iq,take_left'→OK,take_take→QR,getD_cons_zero→I8,getD_cons_succ→JH,mem_cons→IN,pairwise_cons→JB,rel_of_pairwise_cons→JQ,getD→Ir,getElem?_eq_getElem→Ic,foldl_cons→OI
open Array renaming length_toList→IW,toList_append→Ud
open Go.Addr renaming add_lit→I5
open Nat renaming zero_add→ID,le_refl→Ie
open Bool renaming true_and→Q7,and_eq_true→IG
open Go.RowKit.Below renaming refl→Ib
namespace Go.Proofs.YtbfghimjdlpicaaGreatDoor
open Go.RowKit
theorem H5(a:ByteArray):bW a a=0:=(bL a a).2 rfl
theorem H6(a b:ByteArray):0<bW a b↔bW b a<0:=by rw[oS,fq]
theorem DO(a b c:ByteArray)(h1:bW a b<0)(h2:bW b c<0):bW a c<0:=by
 rw[fq] at *;exact fT h1 h2
namespace RL
section
variable {α:Type}
theorem kE(f:α->ByteArray):Keyed λa b=>bW (f a) (f b) where
 refl a:=H5 _
 gt a b:=H6 _ _
 trans a b c h1 h2:=DO _ _ _ h1 h2
 left a b c h:=by rw[(bL _ _).1 h]
 right a b c h:=by rw[(bL _ _).1 h]
theorem jB(f:α->Int):Keyed λa b=>f a-f b where
 refl a:=by omega
 gt a b:=by constructor<;>intro h<;>omega
 trans a b c h1 h2:=by omega
 left a b c h:=by omega
 right a b c h:=by omega
def bI(b:Bool):Int:=if b=true then 1 else 0
theorem DP{a b:Bool}(h:bI a-bI b=0):a=b:=by cases a<;>cases b<;>simp[bI] at h ⊢
def lex(o p:α->α->Int)(a b:α):Int:=if o a b=0 then p a b else o a b
theorem iC{o p:α->α->Int}(h:Keyed o)(k:Keyed p):Keyed (lex o p) where
 refl a:=by rw[lex,if_pos (h.refl a),k.refl a]
 gt a b:=by
  unfold lex;by_cases e:o a b=0
  .rw[if_pos e,if_pos (h.symm e)];exact k.gt a b
  .rw[if_neg e,if_neg (λe2=>e (h.symm e2))];exact h.gt a b
 trans a b c h1 h2:=by
  unfold lex at *;by_cases e:o a b=0
  .rw[if_pos e] at h1
   by_cases e2:o b c=0
   .rw[if_pos e2] at h2
    rw[if_pos (h.AH e e2)];exact k.trans _ _ _ h1 h2
   .rw[if_neg e2] at h2
    rw[if_neg (λe3=>e2 (h.AH (h.symm e) e3)),h.left a b c e];exact h2
  .rw[if_neg e] at h1
   by_cases e2:o b c=0
   .rw[if_neg (λe3=>e (h.AH e3 (h.symm e2))),<- h.right b c a e2];exact h1
   .rw[if_neg e2] at h2
    have h3:=h.trans _ _ _ h1 h2;rw[if_neg (by omega)];exact h3
 left a b c e:=by
  unfold lex at *;by_cases e1:o a b=0
  .rw[if_pos e1] at e
   rw[h.left a b c e1,k.left a b c e]
  .rw[if_neg e1] at e;exact absurd e e1
 right a b c e:=by
  unfold lex at *;by_cases e1:o a b=0
  .rw[if_pos e1] at e
   rw[h.right a b c e1,k.right a b c e]
  .rw[if_neg e1] at e;exact absurd e e1
theorem fF{o p:α->α->Int}{a b:α}(h:lex o p a b=0):o a b=0/\p a b=0:=by
 unfold lex at h;by_cases e:o a b=0
 .rw[if_pos e] at h;exact⟨e,h⟩
 .rw[if_neg e] at h;exact absurd h e
theorem yk{o p:α->α->Int}(k:Keyed p)(hz:∀a b,o a b=0->p a b=0->a=b):eQ o λa b=>decide (0<p a b) where
 irrefl a:=by simp[k.refl a]
 trans a b c h1 h2:=by
  rw[decide_eq_true_eq] at *;rw[k.gt] at *;exact k.trans _ _ _ h2 h1
 total a b e h1 h2:=by
  rw[decide_eq_false_iff_not] at *;refine hz a b e ?_;have:=k.gt b a;omega
end
end RL
end Go.Proofs.YtbfghimjdlpicaaGreatDoor
namespace Go.Proofs.YtbfghimjdlpicaaGreatDoor
namespace Sv
open Go.RowKit
theorem Tryz.qH:(Tryz.prog.info? 38).map (λi=>(i.zero,i.size,i.bytes))=AI (AI (Ik #[Y ⟨#[]⟩,Y ⟨#[]⟩,Y ⟨#[]⟩,Y ⟨#[]⟩,U O 0,U O 0,Ia false,U O 0,Ia false]),9,104):=by kernel_rfl
theorem NC:(Tryz.prog.info? 38).map (·.size)=AI 9:=by
 obtain⟨i,hi,h1,h2,h3⟩:=I9 Tryz.qH;rw[hi];simp[h2]
theorem sizeOf38(w:World):(Go.sizeOf 38).run AS w=.ok 9 w:=by
 obtain⟨i,hi,h1,h2,h3⟩:=I9 Tryz.qH;simp[Go.sizeOf,typeInfo,hi,h2]
theorem fx(w:World)(g vb o lb cb:Nat)(cur vs:Array Value)(hg:w.heap[g]?=AI (By cur 38 (0,0)))(hv:w.heap[vb]?=AI (By vs 38 (0,0)))(aP:vb≠g)(hk:cur.size≠0) : (callFunc 237 #[J (AI ⟨vb,0,be⟩) 1 1,J (AI ⟨g,o,be⟩) lb cb]).run AS w=.ok (.value (Ia false)) w:=by
 rw[OM Tryz.func237 (by kernel_rfl) (by kernel_rfl) (by kernel_rfl) (e:=OF #[41,41] #[4]) (by kernel_rfl),
  QF w 41 4 38 JA 9 sizeOf38 ⟨vb,0,be⟩ ⟨g,o,be⟩ 1 1 lb cb aP 38 38 vs.size cur.size (by simp[O7,hv]) (by simp[O7,hg]) hk (by simp[It,hv]) (by simp[It,hv])]
 rfl
theorem gl(g n c i vb:Nat)(cur:Array Value)(vs:List Value)(w:World)(hg:w.heap[g]?=AI (By cur 38 (0,0)))(cE:cur.size=c*9)(hi:i<n)(dN:n+1<=c)(Di:c<=9223372036854775807)(rK:vb≠g)(hv:w.heap[vb]?=AI (By vs.toArray 38 (0,0)))(lC:vs.length=9)(nt:∀v∈cur.toList.take (n*9),v.oneCell'=true)(oy:∀v∈vs,v.oneCell'=true) :
 aK 199 #[J (AI ⟨g,0,be⟩) n c,U O i,J (AI ⟨vb,0,be⟩) 1 1] w λe w'=>e=AT (J (AI ⟨g,0,be⟩) (n+1) c) /\
  ∃ev:Array Value,w'.heap[g]?=AI (By ev 38 (0,0))/\ev.size=c*9/\ev.toList.take ((n+1)*9)=cur.toList.take (i*9)++vs++(cur.toList.take (n*9)).drop (i*9)/\w.grownBy w' (AI g):=by
 have WI:=λo lb cb=>fx w g vb o lb cb cur vs.toArray hg hv rK (by omega);have pA:¬ ((i:Int)=(n:Int)):=by omega
 have aL:¬ (c=i+1):=by omega
 have eV:¬ (c=i):=by omega
 have bY:(i:Int)<=(n:Int)+1:=by omega
 obtain⟨W1,W2,qG,vo,HF⟩:=rL JA NC hg cE hi dN rK hv lC nt oy;have HF:Hid _:=HF;clear nt oy hg hv;have nR:IntKind.i64.wrap ((i:Int)+1)=(i:Int)+1:=by rw[I1];omega
 have aC:(0:Int)<=(i:Int)+1:=by omega
 have o5:i<=n:=by omega
 have Gp:((i:Int)+1).toNat=i+1:=by omega
 go_enter Tryz.func199,Tryz.ntmps199;go_wp2_with (simp only[WI]);go_region_law (refine dL rfl _ _ 41 41 rfl _ _ (by simp[Of,Oz]) (by simp[Of,Oz]) (qG _ _ _) ?_)
 go_wp2_with fail;go_ret;exact⟨rfl,HF.out⟩
theorem gm(g n c i vb:Nat)(cur:Array Value)(vs:List Value)(w:World)(hg:w.heap[g]?=AI (By cur 38 (0,0)))(cE:cur.size=c*9)(hi:i<n)(gK:n<=c)(dN:c<n+1)(Di:n<=1000)(hv:w.heap[vb]?=AI (By vs.toArray 38 (0,0)))(lC:vs.length=9)(nt:∀v∈cur.toList.take (n*9),v.oneCell'=true)(oy:∀v∈vs,v.oneCell'=true) :
 aK 199 #[J (AI ⟨g,0,be⟩) n c,U O i,J (AI ⟨vb,0,be⟩) 1 1] w λe w'=>∃G,e=AT (J (AI ⟨w.heap.size,0,be⟩) (n+1) G)/\n+1<=G/\G<=Io /\
  ∃ev:Array Value,w'.heap[w.heap.size]?=AI (By ev 38 (0,0))/\ev.size=G*9/\ev.toList.take ((n+1)*9)=cur.toList.take (i*9)++vs++(cur.toList.take (n*9)).drop (i*9)/\w.grownBy w' be:=by
 obtain⟨i0,fH,dt,gJ,gB⟩:=I9 Tryz.qH;have Dj:c=n:=by omega
 subst Dj;have pA:¬ ((i:Int)=(c:Int)):=by omega
 have su:(c:Int)<(c:Int)+1:=by omega
 have tw:(c:Int)+1-(i:Int)=((c+1-i:Nat):Int):=by omega
 have Dl:i+(c+1-i)=c+1:=by omega
 have hold:(Qu i0.size i (J (AI ⟨g,0,be⟩) i c)).run AS w.drew=.ok (cur.toList.take (i*9)).toArray w.drew:=by
  rw[gJ];exact Uc w.drew 9 i ⟨g,0,be⟩ i c (cur.toList.take (i*9)) (by rw[IE,IW];omega) (λj v hj=>by
   have e:w.drew.cell? ((⟨g,0,be⟩:Addr).add j)=cur[j]?:=by rw[I5,ID];exact ae hg _
   rw[e];rw[Qz] at hj;split at hj
   .simpa using hj
   .cases hj)
 have zq:∀ty,∃G nQ,c+1<=G/\G<=Io/\nQ.size=G*9/\nQ.toList.take (i*9)=cur.toList.take (i*9)/\(Ui #[41,3] ty #[J (AI ⟨g,0,be⟩) i c,U O ((c:Int)+1-(i:Int))]).run AS w =
  .ok (J (AI ⟨w.heap.size,0,be⟩) (c+1) G) (w.drew.alloc (By nQ 38)):=λty=>by
  have h:=Qk w 41 3 ty 38 i0 _ O O JA IH fH dt (AI ⟨g,0,be⟩) i c (cur.toList.take (i*9)) hold (c+1-i) (by omega) (by omega) (by omega) (by omega) (by rw[gB];omega) (by rw[gB,Dl];exact growslice_fits dN (by omega));rw[Dl] at h;rw[tw];have h1:=grownCap_ge w (c+1) c 38;refine⟨_,_,h1,Uq w (c+1) c 38 (by unfold Io;omega),?_,?_,h⟩
  .simp only[Array.size_append,J5,size_zeroCells,IE,IW,cE,Value.cells]
   simp;omega
  .simp only[Ud,Iq]
   exact OK (by simp only[IE,IW,cE];omega)
 obtain⟨G,nQ,Bp,zr,Cp,He,zq⟩:=zq 41;have WJ:G<=9223372036854775807:=by unfold Io at zr;omega
 obtain⟨W2,W3,qG,vo,HF⟩:=rM JA NC hg cE hi hv lC nt oy Bp Cp He;obtain⟨W1,db⟩:∃W1,W1=(w.alloc (By nQ 38)).drew:=⟨_,rfl⟩;have M6:w.drew.alloc (By nQ 38)=W1:=by rw[db];rfl
 rw[M6] at zq;rw[<- db] at qG;have HF:Hid _:=HF;have nR:IntKind.i64.wrap ((i:Int)+1)=(i:Int)+1:=by rw[I1];omega
 have aC:(0:Int)<=(i:Int)+1:=by omega
 have o5:i<=c:=by omega
 have Gp:((i:Int)+1).toNat=i+1:=by omega
 have hGi:¬ (G=i):=by omega
 have WK:¬ (G=i+1):=by omega
 have hci:¬ (c=i):=by omega
 clear db nt oy M6 Cp He tw Dl hold hg hv fH dt gJ gB;go_enter Tryz.func199,Tryz.ntmps199;go_wp2_with (at_builtin;refine QL _ rfl _ _ _ _ rfl _ _ rfl rfl _ _ zq ?_);go_region_law (refine dL rfl _ _ 41 41 rfl _ _ (by simp[Of,Oz]) (by simp[Of,Oz]) (vo _ _ _) ?_)
 go_wp2_with fail;go_ret;exact⟨G,rfl,Bp,zr,HF.out⟩
theorem ij(base n vb:Nat)(v:Value)(xs vs:List Value)(w:World)(hown:w.ownsRow base 38 9 v n xs)(hn:n<=1000)(hbase:base<=w.heap.size)(hv:w.heap[vb]?=AI (By vs.toArray 38 (0,0)))(lC:vs.length=9)(oy:∀v∈vs,v.oneCell'=true) :
 aK 199 #[v,U O n,J (AI ⟨vb,0,be⟩) 1 1] w λe w'=>∃v',e=AT v'/\w'.ownsRow base 38 9 v' (n+1) (xs++vs)/\w.grownBy w' v.ownBlock:=by
 obtain⟨i0,fH,dt,gJ,gB⟩:=I9 Tryz.qH;have hnews:∀j u,vs[j]?=AI u->w.cell? ((⟨vb,0,be⟩:Addr).add j)=AI u:=λj v hj=>by rw[I5,ae hv];simpa using hj
 have HO:Hid (w.ownsRow base 38 9 v n xs):=hown;rcases hown.2 with⟨rfl,rfl⟩|⟨g,c,cur,rfl,_,_,gK,et,_,_⟩;rotate_left;unfold Io at et;by_cases Dj:c=n;subst Dj;all_goals
  clear hown hv;go_enter Tryz.func199,Tryz.ntmps199;go_wp2_with (at_builtin;refine IZ _ rfl _ _ 41 rfl base 38 i0 _ 9 104 JA fH dt gJ gB rfl (by omega) _ _ xs rfl HO.out ⟨vb,0,be⟩ 1 1 vs rfl (by omega) hnews oy (by unfold Io;omega) (by omega) hbase ?_);intro v' w' r1 r2 r3;go_wp2_with fail;go_ret;exact⟨v',rfl,r1,r2⟩
theorem gh(base i vb:Nat)(v:Value)(ms:List aV)(m:aV)(w:World)(hown:Own base w v ms)(hi:i<=ms.length)(hn:ms.length<=1000)(hbase:base<=w.heap.size)(hv:w.heap[vb]?=AI (By m.cs.toArray 38 (0,0)))(aP:v.ownBlock≠AI vb) :
 aK 199 #[v,U O i,J (AI ⟨vb,0,be⟩) 1 1] w λe w'=>∃v',e=AT v'/\Own base w' v' (ms.take i++m::ms.drop i)/\w.grownBy w' v.ownBlock:=by
 have hlen:(ms.take i++m::ms.drop i).length=ms.length+1:=by simp;omega
 have Mm:fl (ms.take i++m::ms.drop i)=(fl ms).take (i*9)++m.cs++(fl ms).drop (i*9):=by rw[cU,bk,fP,fQ,Iq]
 by_cases o5:i=ms.length
 .subst o5
  refine(ij base ms.length vb v (fl ms) m.cs w hown hn hbase hv rfl (cX m)).mono ?_;rintro e w' ⟨v',rfl,h1,h2⟩;refine⟨v',rfl,?_,h2⟩;have e1:ms.take ms.length++m::ms.drop ms.length=ms++[m]:=by simp
  have e2:fl (ms++[m])=fl ms++m.cs:=by rw[cU,bk];simp[fl]
  rw[e1];show w'.ownsRow base 38 9 v' (ms++[m]).length (fl (ms++[m]));rw[e2,show(ms++[m]).length=ms.length+1 by simp];exact h1
 .rcases hown.2 with⟨_,h0⟩|⟨g,c,cur,rfl,eX,hg,gK,et,cE,bo⟩
  .omega
  .have rK:vb≠g:=λe=>aP (by simp[JF,e])
   have nt:∀v∈cur.toList.take (ms.length*9),v.oneCell'=true:=by rw[bo];exact iK ms
   have RQ:cur.toList.take (i*9)=(fl ms).take (i*9):=by rw[<- bo,QR];congr 1;omega
   have key:∀l:List Value,l=cur.toList.take (i*9)++m.cs++(cur.toList.take (ms.length*9)).drop (i*9)->l=fl (ms.take i++m::ms.drop i):=λl hl=>by rw[hl,Mm,bo,RQ]
   by_cases dN:ms.length+1<=c
   .refine(gl g ms.length c i vb cur m.cs w hg cE (by omega) dN (by unfold Io at et;omega) rK hv rfl nt (cX m)).mono ?_
    rintro e w' ⟨rfl,ev,h1,h2,h3,h4⟩;refine⟨_,rfl,?_,h4⟩;rw[<- hlen];exact jo eX h1 h2 (by omega) et (key _ (by rw[hlen];exact h3))
   .refine(gm g ms.length c i vb cur m.cs w hg cE (by omega) gK (by omega) hn hv rfl nt (cX m)).mono ?_
    rintro e w' ⟨G,rfl,Bp,zr,ev,h1,h2,h3,h4⟩;refine⟨_,rfl,?_,oT h4 _⟩;rw[<- hlen];exact jo hbase h1 h2 (by omega) zr (key _ (by rw[hlen];exact h3))
end Sv
namespace Sv
open Go.RowKit
def ord:aV->aV->Int:=RL.lex (λa b=>bW a.node b.node) (λa b=>bW a.bf b.bf)
theorem keyed:RL.Keyed ord:=RL.iC (RL.kE aV.node) (RL.kE aV.bf)
def zJ:aV->aV->Int:=RL.lex (λa b=>a.version-b.version) (RL.lex (λa b=>RL.bI a.gone-RL.bI b.gone) (RL.lex (λa b=>bW a.name b.name) (RL.lex (λa b=>bW a.tag b.tag) (RL.lex (λa b=>a.addr-b.addr) (RL.lex (λa b=>a.port-b.port) (λa b=>RL.bI a.af-RL.bI b.af))))))
theorem DQ:RL.Keyed zJ:=RL.iC (RL.jB aV.version) (RL.iC (RL.jB λa:aV=>RL.bI a.gone) (RL.iC (RL.kE aV.name) (RL.iC (RL.kE aV.tag) (RL.iC (RL.jB aV.addr) (RL.iC (RL.jB aV.port) (RL.jB λa:aV=>RL.bI a.af))))))
def bF(a b:aV):Bool:=decide (0<zJ a b)
theorem cR:RL.eQ ord bF:=RL.yk DQ λa b h1 h2=>by
 obtain⟨n1,n2⟩:=RL.fF h1;obtain⟨h3,h2⟩:=RL.fF h2;obtain⟨h4,h2⟩:=RL.fF h2;obtain⟨h5,h2⟩:=RL.fF h2;obtain⟨h6,h2⟩:=RL.fF h2;obtain⟨h7,h2⟩:=RL.fF h2;obtain⟨h8,h9⟩:=RL.fF h2;have e1:a.node=b.node:=(bL _ _).1 n1;have e2:a.bf=b.bf:=(bL _ _).1 n2;have e3:a.version=b.version:=by omega
 have e4:a.gone=b.gone:=RL.DP h4;have e5:a.name=b.name:=(bL _ _).1 h5;have e6:a.tag=b.tag:=(bL _ _).1 h6;have e7:a.addr=b.addr:=by omega
 have e8:a.port=b.port:=by omega
 have e9:a.af=b.af:=RL.DP h9;obtain⟨a_node,a_idn,a_name,a_tag,a_addr,a_port,a_passing,a_version,a_gone⟩:=a;obtain⟨b_node,b_idn,b_name,b_tag,b_addr,b_port,b_passing,b_version,b_gone⟩:=b;simp only at e1 e2 e3 e4 e5 e6 e7 e8 e9;subst e1 e2 e3 e4 e5 e6 e7 e8 e9;rfl
abbrev aT(ms:List aV):Prop:=RL.aT ord ms
abbrev aN(ms:List aV)(m:aV):List aV:=RL.gN ord bF ms m
abbrev aB(a b:List aV):List aV:=RL.join ord bF a b
abbrev At(ms:List aV)(t:aV)(p:Nat)(f:Bool):Prop:=RL.At ord dm ms t p f
abbrev aR(ms:List aV):Bool:=RL.aR ord ms
theorem eu{ms:List aV}(h:aT ms)(t:aV):∀i j,i<=j->j<ms.length->ord (ms.getD j dm) t<0->ord (ms.getD i dm) t<0:=RL.eu ord dm keyed h t
theorem fW(ms:List aV)(h:∀j,j+1<ms.length->ord (ms.getD j dm) (ms.getD (j+1) dm)<0):aR ms=true:=RL.iu ord dm ms h
theorem fV(ms:List aV)(h:aR ms=true):∀j,j+1<ms.length->ord (ms.getD j dm) (ms.getD (j+1) dm)<0:=RL.jn ord dm ms h
theorem jT(ms:List aV)(hr:aT ms)(t:aV):∃p f,At ms t p f:=RL.jT ord dm keyed ms hr t
theorem eZ{ms:List aV}{t:aV}{p q:Nat}{f e:Bool}(h:At ms t p f)(k:At ms t q e):p=q/\f=e:=RL.eZ ord dm h k
theorem dy(ms:List aV)(m:aV)(p:Nat)(f:Bool)(h:At ms m p f) :
 aN ms m=if f=true then(if bF m (ms.getD p dm)=true then ms.set p m else ms) else ms.take p++m::ms.drop p:=RL.rh ord bF dm ms m p f h
theorem di(ms:List aV)(m x:aV)(h:x∈aN ms m):x=m\/x∈ms:=RL.nX ord bF ms m x h
theorem dz(b a:List aV)(h:aT a):aT (aB a b):=RL.cT ord bF keyed b a h
theorem dj(b a:List aV):(aB a b).length<=a.length+b.length:=RL.rj ord bF b a
theorem dJ(b a:List aV)(x:aV)(h:x∈aB a b):x∈a\/x∈b:=RL.nY ord bF b a x h
theorem gd(a b:List aV)(j:Nat)(hj:j<b.length):aB a (b.take (j+1))=aN (aB a (b.take j)) (b.getD j dm):=RL.sz ord bF dm a b j hj
theorem ju(b:List aV)(h:aT b):aB [] b=b:=RL.join_nil ord bF b h
theorem lJ{ms:List aV}{m:aV}(h:∀m∈ms,m.ok)(hm:m.ok):∀x∈aN ms m,x.ok:=by
 intro x hx;rcases di ms m x hx with rfl|hx
 .exact hm
 .exact h x hx
theorem iP(b a:List aV)(ha:∀m∈a,m.ok)(hb:∀m∈b,m.ok):∀x∈aB a b,x.ok:=by
 intro x hx;rcases dJ b a x hx with h|h
 .exact ha x h
 .exact hb x h
def nu(t:ByteArray):Bool:=decide (t=ByteArray.empty)||bl t
def aV.e(m:aV):Int:=
 if(bl m.node&&(bl m.bf&&(bl m.name&&nu m.tag)))=true then(if(within m.addr 0 4294967295&&(within m.port 0 65535&&within m.version 1 1000000))=true then 0 else 3) else 1
def ba:List aV->Int
 |[]=>0
 |m::r=>if m.e=0 then ba r else m.e
theorem cS:∀(ms:List aV),(∀j,j<ms.length->(ms.getD j dm).e=0)->ba ms=0
 |[],_=>rfl
 |m::r,h=>by
  have h0:=h 0 (by simp);simp only[I8] at h0;rw[ba,if_pos h0];exact cS r λj hj=>by have:=h (j+1) (by simpa using hj);simpa using this
theorem ez:∀(ms:List aV) (k:Nat),k<ms.length->(∀j,j<k->(ms.getD j dm).e=0)->(ms.getD k dm).e≠0->ba ms=(ms.getD k dm).e
 |[],k,h,_,_=>by simp at h
 |m::r,0,_,_,aP=>by
  simp only[I8] at aP ⊢;rw[ba,if_neg aP]
 |m::r,k+1,h,hz,aP=>by
  have h0:=hz 0 (by omega);simp only[I8] at h0;rw[ba,if_pos h0,JH];rw[JH] at aP;exact ez r k (by simpa using h) (λj hj=>by have:=hz (j+1) (by omega);simpa using this) aP
theorem bn:∀(ms:List aV),ba ms=0->∀m∈ms,m.e=0
 |[],_,m,hm=>by simp at hm
 |x::r,h,m,hm=>by
  rw[ba] at h;split at h
  .rename_i hx
   rcases IN.1 hm with rfl|hm
   .exact hx
   .exact bn r h m hm
  .rename_i hx;exact absurd h hx
theorem gq:∀(ms:List aV),(∀m∈ms,m.e=0)->ba ms=0
 |[],_=>rfl
 |x::r,h=>by rw[ba,if_pos (h x (by simp))];exact gq r λm hm=>h m (by simp[hm])
def bp(ms:List aV):Int:=if 40<ms.length then 2 else if ba ms=0 then(if aR ms=true then 0 else 4) else ba ms
theorem uH(ms:List aV)(k:Nat)(hn:ms.length<=40)(hk:k<ms.length)(hz:∀j,j<k->(ms.getD j dm).e=0)(aP:(ms.getD k dm).e≠0):bp ms=(ms.getD k dm).e:=by
 have h:=ez ms k hk hz aP;rw[bp,if_neg (by omega),h,if_neg aP]
theorem tn(ms:List aV)(hn:ms.length<=40)(hz:∀j,j<ms.length->(ms.getD j dm).e=0):bp ms=if aR ms=true then 0 else 4:=by
 rw[bp,if_neg (by omega),cS ms hz,if_pos rfl]
theorem aj{ms:List aV}(h:bp ms=0):ms.length<=40/\aT ms/\ba ms=0:=by
 unfold bp at h;split at h
 .omega
 .split at h
  .rename_i h1 h2
   split at h
   .rename_i h3
    exact⟨by omega,RL.mM ord keyed ms h3,h2⟩
   .omega
  .rename_i h1 h2;exact absurd h h2
theorem kT{ms:List aV}(h1:ms.length<=40)(h2:aT ms)(h3:∀m∈ms,m.e=0):bp ms=0:=by
 rw[bp,if_neg (by omega),gq ms h3,if_pos rfl,if_pos (RL.kL ord ms h2)]
theorem zu(m:aV):bp [m]=m.e:=by
 have h1:ba [m]=m.e:=by
  rw[ba];split
  .rename_i h;rw[h];rfl
  .rfl
 rw[bp,if_neg (by simp),h1];split
 .rename_i h;rw[h];exact if_pos rfl
 .rfl
def aY(a b:List aV):Int:=if bp a=0 then bp b else bp a
def dV(a b:List aV)(k:Nat):List aV:=if k=0 then[] else if k=1 then a else aB a b
def aJ(a b:List aV):Int:=if aY a b=0 then(if 40<(aB a b).length then 2 else 0) else aY a b
end Sv
namespace Gw
open Go.RowKit
def ord(a b:bN):Int:=bW a.av b.av
theorem keyed:RL.Keyed ord:=RL.kE bN.av
def zJ:bN->bN->Int:=RL.lex (λa b=>a.version-b.version) (λa b=>a.addr-b.addr)
theorem DQ:RL.Keyed zJ:=RL.iC (RL.jB bN.version) (RL.jB bN.addr)
def bF(a b:bN):Bool:=decide (0<zJ a b)
theorem cR:RL.eQ ord bF:=RL.yk DQ λa b h1 h2=>by
 obtain⟨h3,h4⟩:=RL.fF h2;have e1:a.av=b.av:=(bL _ _).1 h1;have e2:a.version=b.version:=by omega
 have e3:a.addr=b.addr:=by omega
 obtain⟨a_centre,a_addr,a_version⟩:=a;obtain⟨b_centre,b_addr,b_version⟩:=b;simp only at e1 e2 e3;subst e1 e2 e3;rfl
abbrev aT(ms:List bN):Prop:=RL.aT ord ms
abbrev aN(ms:List bN)(m:bN):List bN:=RL.gN ord bF ms m
abbrev aB(a b:List bN):List bN:=RL.join ord bF a b
abbrev At(ms:List bN)(t:bN)(p:Nat)(f:Bool):Prop:=RL.At ord dm ms t p f
abbrev aR(ms:List bN):Bool:=RL.aR ord ms
theorem eu{ms:List bN}(h:aT ms)(t:bN):∀i j,i<=j->j<ms.length->ord (ms.getD j dm) t<0->ord (ms.getD i dm) t<0:=RL.eu ord dm keyed h t
theorem fW(ms:List bN)(h:∀j,j+1<ms.length->ord (ms.getD j dm) (ms.getD (j+1) dm)<0):aR ms=true:=RL.iu ord dm ms h
theorem fV(ms:List bN)(h:aR ms=true):∀j,j+1<ms.length->ord (ms.getD j dm) (ms.getD (j+1) dm)<0:=RL.jn ord dm ms h
theorem jT(ms:List bN)(hr:aT ms)(t:bN):∃p f,At ms t p f:=RL.jT ord dm keyed ms hr t
theorem eZ{ms:List bN}{t:bN}{p q:Nat}{f e:Bool}(h:At ms t p f)(k:At ms t q e):p=q/\f=e:=RL.eZ ord dm h k
theorem dy(ms:List bN)(m:bN)(p:Nat)(f:Bool)(h:At ms m p f) :
 aN ms m=if f=true then(if bF m (ms.getD p dm)=true then ms.set p m else ms) else ms.take p++m::ms.drop p:=RL.rh ord bF dm ms m p f h
theorem dz(b a:List bN)(h:aT a):aT (aB a b):=RL.cT ord bF keyed b a h
theorem dj(b a:List bN):(aB a b).length<=a.length+b.length:=RL.rj ord bF b a
theorem dJ(b a:List bN)(x:bN)(h:x∈aB a b):x∈a\/x∈b:=RL.nY ord bF b a x h
theorem gd(a b:List bN)(j:Nat)(hj:j<b.length):aB a (b.take (j+1))=aN (aB a (b.take j)) (b.getD j dm):=RL.sz ord bF dm a b j hj
theorem ju(b:List bN)(h:aT b):aB [] b=b:=RL.join_nil ord bF b h
theorem iP(b a:List bN)(ha:∀m∈a,m.ok)(hb:∀m∈b,m.ok):∀x∈aB a b,x.ok:=by
 intro x hx;rcases dJ b a x hx with h|h
 .exact ha x h
 .exact hb x h
def bN.e(m:bN):Int:=if bl m.av=true then(if within m.addr 0 4294967295=true then(if within m.version 1 1000000=true then 0 else 3) else 3) else 1
def ba:List bN->Int
 |[]=>0
 |m::r=>if m.e=0 then ba r else m.e
theorem cS:∀(ms:List bN),(∀j,j<ms.length->(ms.getD j dm).e=0)->ba ms=0
 |[],_=>rfl
 |m::r,h=>by
  have h0:=h 0 (by simp);simp only[I8] at h0;rw[ba,if_pos h0];exact cS r λj hj=>by have:=h (j+1) (by simpa using hj);simpa using this
theorem ez:∀(ms:List bN) (k:Nat),k<ms.length->(∀j,j<k->(ms.getD j dm).e=0)->(ms.getD k dm).e≠0->ba ms=(ms.getD k dm).e
 |[],k,h,_,_=>by simp at h
 |m::r,0,_,_,aP=>by
  simp only[I8] at aP ⊢;rw[ba,if_neg aP]
 |m::r,k+1,h,hz,aP=>by
  have h0:=hz 0 (by omega);simp only[I8] at h0;rw[ba,if_pos h0,JH];rw[JH] at aP;exact ez r k (by simpa using h) (λj hj=>by have:=hz (j+1) (by omega);simpa using this) aP
theorem bn:∀(ms:List bN),ba ms=0->∀m∈ms,m.e=0
 |[],_,m,hm=>by simp at hm
 |x::r,h,m,hm=>by
  rw[ba] at h;split at h
  .rename_i hx
   rcases IN.1 hm with rfl|hm
   .exact hx
   .exact bn r h m hm
  .rename_i hx;exact absurd h hx
theorem gq:∀(ms:List bN),(∀m∈ms,m.e=0)->ba ms=0
 |[],_=>rfl
 |x::r,h=>by rw[ba,if_pos (h x (by simp))];exact gq r λm hm=>h m (by simp[hm])
def bp(ms:List bN):Int:=if 6<ms.length then 2 else if ba ms=0 then(if aR ms=true then 0 else 4) else ba ms
theorem uH(ms:List bN)(k:Nat)(hn:ms.length<=6)(hk:k<ms.length)(hz:∀j,j<k->(ms.getD j dm).e=0)(aP:(ms.getD k dm).e≠0):bp ms=(ms.getD k dm).e:=by
 have h:=ez ms k hk hz aP;rw[bp,if_neg (by omega),h,if_neg aP]
theorem tn(ms:List bN)(hn:ms.length<=6)(hz:∀j,j<ms.length->(ms.getD j dm).e=0):bp ms=if aR ms=true then 0 else 4:=by
 rw[bp,if_neg (by omega),cS ms hz,if_pos rfl]
theorem aj{ms:List bN}(h:bp ms=0):ms.length<=6/\aT ms/\ba ms=0:=by
 unfold bp at h;split at h
 .omega
 .split at h
  .rename_i h1 h2
   split at h
   .rename_i h3
    exact⟨by omega,RL.mM ord keyed ms h3,h2⟩
   .omega
  .rename_i h1 h2;exact absurd h h2
theorem kT{ms:List bN}(h1:ms.length<=6)(h2:aT ms)(h3:∀m∈ms,m.e=0):bp ms=0:=by
 rw[bp,if_neg (by omega),gq ms h3,if_pos rfl,if_pos (RL.kL ord ms h2)]
def aY(a b:List bN):Int:=if bp a=0 then bp b else bp a
def dV(a b:List bN)(k:Nat):List bN:=if k=0 then[] else if k=1 then a else aB a b
def aJ(a b:List bN):Int:=if aY a b=0 then(if 6<(aB a b).length then 2 else 0) else aY a b
end Gw
end Go.Proofs.YtbfghimjdlpicaaGreatDoor
namespace Go.Proofs.YtbfghimjdlpicaaGreatDoor
open Go.RowKit
theorem Tryz.qm:(Tryz.prog.info? 52).map (λi=>(i.zero,i.size,i.bytes))=AI (AI (Ik #[Y ⟨#[]⟩,U O 0,U O 0,U O 0,Ia false]),5,48):=by kernel_rfl
theorem ND:(Tryz.prog.info? 52).map (·.size)=AI 5:=by
 obtain⟨i,hi,h1,h2,h3⟩:=I9 Tryz.qm;rw[hi];simp[h2]
theorem sizeOf52(w:World):(Go.sizeOf 52).run AS w=.ok 5 w:=by
 obtain⟨i,hi,h1,h2,h3⟩:=I9 Tryz.qm;simp[Go.sizeOf,typeInfo,hi,h2]
theorem fx(w:World)(g vb o lb cb:Nat)(cur vs:Array Value)(hg:w.heap[g]?=AI (By cur 52 (0,0)))(hv:w.heap[vb]?=AI (By vs 52 (0,0)))(aP:vb≠g)(hk:cur.size≠0) : (callFunc 269 #[J (AI ⟨vb,0,be⟩) 1 1,J (AI ⟨g,o,be⟩) lb cb]).run AS w=.ok (.value (Ia false)) w:=by
 rw[OM Tryz.func269 (by kernel_rfl) (by kernel_rfl) (by kernel_rfl) (e:=OF #[45,45] #[4]) (by kernel_rfl),
  QF w 45 4 52 JW 5 sizeOf52 ⟨vb,0,be⟩ ⟨g,o,be⟩ 1 1 lb cb aP 52 52 vs.size cur.size (by simp[O7,hv]) (by simp[O7,hg]) hk (by simp[It,hv]) (by simp[It,hv])]
 rfl
theorem gl(g n c i vb:Nat)(cur:Array Value)(vs:List Value)(w:World)(hg:w.heap[g]?=AI (By cur 52 (0,0)))(cE:cur.size=c*5)(hi:i<n)(dN:n+1<=c)(Di:c<=9223372036854775807)(rK:vb≠g)(hv:w.heap[vb]?=AI (By vs.toArray 52 (0,0)))(lC:vs.length=5)(nt:∀v∈cur.toList.take (n*5),v.oneCell'=true)(oy:∀v∈vs,v.oneCell'=true) :
 aK 234 #[J (AI ⟨g,0,be⟩) n c,U O i,J (AI ⟨vb,0,be⟩) 1 1] w λe w'=>e=AT (J (AI ⟨g,0,be⟩) (n+1) c) /\
  ∃ev:Array Value,w'.heap[g]?=AI (By ev 52 (0,0))/\ev.size=c*5/\ev.toList.take ((n+1)*5)=cur.toList.take (i*5)++vs++(cur.toList.take (n*5)).drop (i*5)/\w.grownBy w' (AI g):=by
 have WI:=λo lb cb=>fx w g vb o lb cb cur vs.toArray hg hv rK (by omega);have pA:¬ ((i:Int)=(n:Int)):=by omega
 have aL:¬ (c=i+1):=by omega
 have eV:¬ (c=i):=by omega
 have bY:(i:Int)<=(n:Int)+1:=by omega
 obtain⟨W1,W2,qG,vo,HF⟩:=rL JW ND hg cE hi dN rK hv lC nt oy;have HF:Hid _:=HF;clear nt oy hg hv;have nR:IntKind.i64.wrap ((i:Int)+1)=(i:Int)+1:=by rw[I1];omega
 have aC:(0:Int)<=(i:Int)+1:=by omega
 have o5:i<=n:=by omega
 have Gp:((i:Int)+1).toNat=i+1:=by omega
 go_enter Tryz.func234,Tryz.ntmps234;go_wp2_with (simp only[WI]);go_region_law (refine dL rfl _ _ 45 45 rfl _ _ (by simp[Of,Oz]) (by simp[Of,Oz]) (qG _ _ _) ?_)
 go_wp2_with fail;go_ret;exact⟨rfl,HF.out⟩
theorem gm(g n c i vb:Nat)(cur:Array Value)(vs:List Value)(w:World)(hg:w.heap[g]?=AI (By cur 52 (0,0)))(cE:cur.size=c*5)(hi:i<n)(gK:n<=c)(dN:c<n+1)(Di:n<=1000)(hv:w.heap[vb]?=AI (By vs.toArray 52 (0,0)))(lC:vs.length=5)(nt:∀v∈cur.toList.take (n*5),v.oneCell'=true)(oy:∀v∈vs,v.oneCell'=true) :
 aK 234 #[J (AI ⟨g,0,be⟩) n c,U O i,J (AI ⟨vb,0,be⟩) 1 1] w λe w'=>∃G,e=AT (J (AI ⟨w.heap.size,0,be⟩) (n+1) G)/\n+1<=G/\G<=Io /\
  ∃ev:Array Value,w'.heap[w.heap.size]?=AI (By ev 52 (0,0))/\ev.size=G*5/\ev.toList.take ((n+1)*5)=cur.toList.take (i*5)++vs++(cur.toList.take (n*5)).drop (i*5)/\w.grownBy w' be:=by
 obtain⟨i0,fH,dt,gJ,gB⟩:=I9 Tryz.qm;have Dj:c=n:=by omega
 subst Dj;have pA:¬ ((i:Int)=(c:Int)):=by omega
 have su:(c:Int)<(c:Int)+1:=by omega
 have tw:(c:Int)+1-(i:Int)=((c+1-i:Nat):Int):=by omega
 have Dl:i+(c+1-i)=c+1:=by omega
 have hold:(Qu i0.size i (J (AI ⟨g,0,be⟩) i c)).run AS w.drew=.ok (cur.toList.take (i*5)).toArray w.drew:=by
  rw[gJ];exact Uc w.drew 5 i ⟨g,0,be⟩ i c (cur.toList.take (i*5)) (by rw[IE,IW];omega) (λj v hj=>by
   have e:w.drew.cell? ((⟨g,0,be⟩:Addr).add j)=cur[j]?:=by rw[I5,ID];exact ae hg _
   rw[e];rw[Qz] at hj;split at hj
   .simpa using hj
   .cases hj)
 have zq:∀ty,∃G nQ,c+1<=G/\G<=Io/\nQ.size=G*5/\nQ.toList.take (i*5)=cur.toList.take (i*5)/\(Ui #[45,3] ty #[J (AI ⟨g,0,be⟩) i c,U O ((c:Int)+1-(i:Int))]).run AS w =
  .ok (J (AI ⟨w.heap.size,0,be⟩) (c+1) G) (w.drew.alloc (By nQ 52)):=λty=>by
  have h:=Qk w 45 3 ty 52 i0 _ O O JW IH fH dt (AI ⟨g,0,be⟩) i c (cur.toList.take (i*5)) hold (c+1-i) (by omega) (by omega) (by omega) (by omega) (by rw[gB];omega) (by rw[gB,Dl];exact growslice_fits dN (by omega));rw[Dl] at h;rw[tw];have h1:=grownCap_ge w (c+1) c 52;refine⟨_,_,h1,Uq w (c+1) c 52 (by unfold Io;omega),?_,?_,h⟩
  .simp only[Array.size_append,J5,size_zeroCells,IE,IW,cE,Value.cells]
   simp;omega
  .simp only[Ud,Iq]
   exact OK (by simp only[IE,IW,cE];omega)
 obtain⟨G,nQ,Bp,zr,Cp,He,zq⟩:=zq 45;have WJ:G<=9223372036854775807:=by unfold Io at zr;omega
 obtain⟨W2,W3,qG,vo,HF⟩:=rM JW ND hg cE hi hv lC nt oy Bp Cp He;obtain⟨W1,db⟩:∃W1,W1=(w.alloc (By nQ 52)).drew:=⟨_,rfl⟩;have M6:w.drew.alloc (By nQ 52)=W1:=by rw[db];rfl
 rw[M6] at zq;rw[<- db] at qG;have HF:Hid _:=HF;have nR:IntKind.i64.wrap ((i:Int)+1)=(i:Int)+1:=by rw[I1];omega
 have aC:(0:Int)<=(i:Int)+1:=by omega
 have o5:i<=c:=by omega
 have Gp:((i:Int)+1).toNat=i+1:=by omega
 have hGi:¬ (G=i):=by omega
 have WK:¬ (G=i+1):=by omega
 have hci:¬ (c=i):=by omega
 clear db nt oy M6 Cp He tw Dl hold hg hv fH dt gJ gB;go_enter Tryz.func234,Tryz.ntmps234;go_wp2_with (at_builtin;refine QL _ rfl _ _ _ _ rfl _ _ rfl rfl _ _ zq ?_);go_region_law (refine dL rfl _ _ 45 45 rfl _ _ (by simp[Of,Oz]) (by simp[Of,Oz]) (vo _ _ _) ?_)
 go_wp2_with fail;go_ret;exact⟨G,rfl,Bp,zr,HF.out⟩
theorem ij(base n vb:Nat)(v:Value)(xs vs:List Value)(w:World)(hown:w.ownsRow base 52 5 v n xs)(hn:n<=1000)(hbase:base<=w.heap.size)(hv:w.heap[vb]?=AI (By vs.toArray 52 (0,0)))(lC:vs.length=5)(oy:∀v∈vs,v.oneCell'=true) :
 aK 234 #[v,U O n,J (AI ⟨vb,0,be⟩) 1 1] w λe w'=>∃v',e=AT v'/\w'.ownsRow base 52 5 v' (n+1) (xs++vs)/\w.grownBy w' v.ownBlock:=by
 obtain⟨i0,fH,dt,gJ,gB⟩:=I9 Tryz.qm;have hnews:∀j u,vs[j]?=AI u->w.cell? ((⟨vb,0,be⟩:Addr).add j)=AI u:=λj v hj=>by rw[I5,ae hv];simpa using hj
 have HO:Hid (w.ownsRow base 52 5 v n xs):=hown;rcases hown.2 with⟨rfl,rfl⟩|⟨g,c,cur,rfl,_,_,gK,et,_,_⟩;rotate_left;unfold Io at et;by_cases Dj:c=n;subst Dj;all_goals
  clear hown hv;go_enter Tryz.func234,Tryz.ntmps234;go_wp2_with (at_builtin;refine IZ _ rfl _ _ 45 rfl base 52 i0 _ 5 48 JW fH dt gJ gB rfl (by omega) _ _ xs rfl HO.out ⟨vb,0,be⟩ 1 1 vs rfl (by omega) hnews oy (by unfold Io;omega) (by omega) hbase ?_);intro v' w' r1 r2 r3;go_wp2_with fail;go_ret;exact⟨v',rfl,r1,r2⟩
theorem gh(base i vb:Nat)(v:Value)(ms:List Mem)(m:Mem)(w:World)(hown:Own base w v ms)(hi:i<=ms.length)(hn:ms.length<=1000)(hbase:base<=w.heap.size)(hv:w.heap[vb]?=AI (By m.cs.toArray 52 (0,0)))(aP:v.ownBlock≠AI vb) :
 aK 234 #[v,U O i,J (AI ⟨vb,0,be⟩) 1 1] w λe w'=>∃v',e=AT v'/\Own base w' v' (ms.take i++m::ms.drop i)/\w.grownBy w' v.ownBlock:=by
 have hlen:(ms.take i++m::ms.drop i).length=ms.length+1:=by simp;omega
 have Mm:fl (ms.take i++m::ms.drop i)=(fl ms).take (i*5)++m.cs++(fl ms).drop (i*5):=by rw[cU,bk,fP,fQ,Iq]
 by_cases o5:i=ms.length
 .subst o5
  refine(ij base ms.length vb v (fl ms) m.cs w hown hn hbase hv rfl (cX m)).mono ?_;rintro e w' ⟨v',rfl,h1,h2⟩;refine⟨v',rfl,?_,h2⟩;have e1:ms.take ms.length++m::ms.drop ms.length=ms++[m]:=by simp
  have e2:fl (ms++[m])=fl ms++m.cs:=by rw[cU,bk];simp[fl]
  rw[e1];show w'.ownsRow base 52 5 v' (ms++[m]).length (fl (ms++[m]));rw[e2,show(ms++[m]).length=ms.length+1 by simp];exact h1
 .rcases hown.2 with⟨_,h0⟩|⟨g,c,cur,rfl,eX,hg,gK,et,cE,bo⟩
  .omega
  .have rK:vb≠g:=λe=>aP (by simp[JF,e])
   have nt:∀v∈cur.toList.take (ms.length*5),v.oneCell'=true:=by rw[bo];exact iK ms
   have RQ:cur.toList.take (i*5)=(fl ms).take (i*5):=by rw[<- bo,QR];congr 1;omega
   have key:∀l:List Value,l=cur.toList.take (i*5)++m.cs++(cur.toList.take (ms.length*5)).drop (i*5)->l=fl (ms.take i++m::ms.drop i):=λl hl=>by rw[hl,Mm,bo,RQ]
   by_cases dN:ms.length+1<=c
   .refine(gl g ms.length c i vb cur m.cs w hg cE (by omega) dN (by unfold Io at et;omega) rK hv rfl nt (cX m)).mono ?_
    rintro e w' ⟨rfl,ev,h1,h2,h3,h4⟩;refine⟨_,rfl,?_,h4⟩;rw[<- hlen];exact jo eX h1 h2 (by omega) et (key _ (by rw[hlen];exact h3))
   .refine(gm g ms.length c i vb cur m.cs w hg cE (by omega) gK (by omega) hn hv rfl nt (cX m)).mono ?_
    rintro e w' ⟨G,rfl,Bp,zr,ev,h1,h2,h3,h4⟩;refine⟨_,rfl,?_,oT h4 _⟩;rw[<- hlen];exact jo hbase h1 h2 (by omega) zr (key _ (by rw[hlen];exact h3))
def uY(nm:ByteArray)(st lf ad:Int):Int:=
 if bl nm=true then(if within st 1 4=true then(if within lf 1 1000000=true then(if within ad 0 4294967295=true then 0 else 3) else 3) else 7) else 1
def wY(sa la aa:Int)(va:Bool)(sb lb ab:Int)(vb:Bool):Bool:=
 if la=lb then(if sa=sb then(if aa=ab then(va&&!vb) else decide (ab<aa)) else decide (sb<sa)) else decide (lb<la)
theorem zK(nm:ByteArray)(st lf ad:Int)(sv:Bool)(w:World)(hs:nm.size<=Io) :
 aK 136 #[Ik #[Y nm,U O st,U O lf,U O ad,Ia sv]] w λe w'=>e=AT (U O (uY nm st lf ad))/\w'=w.alloc (By #[Y nm,U O st,U O lf,U O ad,Ia sv] 52):=by
 rcases h1:bl nm with _|_
 .go_enter Tryz.func136,Tryz.ntmps136
  go_wp2_with (go_at_call 50;refine(cj _ _ hs).mono ?_;rintro e w' ⟨rfl,rfl⟩;rw[h1]);go_ret;exact⟨an (by simp[uY,h1]),rfl⟩
 .rcases h2:within st 1 4 with _|_
  .go_enter Tryz.func136,Tryz.ntmps136
   go_wp2_with (first|(go_at_call 50;refine(cj _ _ hs).mono ?_;rintro e w' ⟨rfl,rfl⟩;rw[h1])|(go_at_call 51;refine(cM _ _ _ _).mono ?_;rintro e w' ⟨rfl,rfl⟩;rw[h2]));go_ret;exact⟨an (by simp[uY,h1,h2]),rfl⟩
  .rcases h3:within lf 1 1000000 with _|_
   .go_enter Tryz.func136,Tryz.ntmps136
    go_wp2_with (first|(go_at_call 50;refine(cj _ _ hs).mono ?_;rintro e w' ⟨rfl,rfl⟩;rw[h1])|(go_at_call 51;refine(cM _ _ _ _).mono ?_;rintro e w' ⟨rfl,rfl⟩;first|rw[h2]|rw[h3]));go_ret;exact⟨an (by simp[uY,h1,h2,h3]),rfl⟩
   .rcases h4:within ad 0 4294967295 with _|_
    all_goals
     go_enter Tryz.func136,Tryz.ntmps136;go_wp2_with (first|(go_at_call 50;refine(cj _ _ hs).mono ?_;rintro e w' ⟨rfl,rfl⟩;rw[h1])|(go_at_call 51;refine(cM _ _ _ _).mono ?_;rintro e w' ⟨rfl,rfl⟩;first|rw[h2]|rw[h3])|(go_at_call 29;refine(fp _ _).mono ?_;rintro e w' ⟨rfl,rfl⟩;rw[h4]));go_ret;exact⟨an (by simp[uY,h1,h2,h3,h4]),rfl⟩
theorem xL(na nb:ByteArray)(sa la aa:Int)(va:Bool)(sb lb ab:Int)(vb:Bool)(w:World) :
 aK 193 #[Ik #[Y na,U O sa,U O la,U O aa,Ia va],Ik #[Y nb,U O sb,U O lb,U O ab,Ia vb]] w λe w'=>e=AT (Ia (wY sa la aa va sb lb ab vb))/\w'=(w.alloc (By #[Y na,U O sa,U O la,U O aa,Ia va] 52)).alloc (By #[Y nb,U O sb,U O lb,U O ab,Ia vb] 52):=by
 by_cases h1:la=lb
 .subst h1
  by_cases h2:sa=sb
  .subst h2
   by_cases h3:aa=ab
   .subst h3
    cases va
    all_goals
     go_enter Tryz.func193,Tryz.ntmps193;go_wp2;go_ret;exact⟨aW (by simp[wY]),rfl⟩
   .have h3':(aa !=ab)=true:=by simpa using h3
    go_enter Tryz.func193,Tryz.ntmps193;go_wp2;go_ret;exact⟨aW (by simp[wY,h3]),rfl⟩
  .have Rb:(sa !=sb)=true:=by simpa using h2
   go_enter Tryz.func193,Tryz.ntmps193;go_wp2;go_ret;exact⟨aW (by simp[wY,h2]),rfl⟩
 .have Sm:(la !=lb)=true:=by simpa using h1
  go_enter Tryz.func193,Tryz.ntmps193;go_wp2;go_ret;exact⟨aW (by simp[wY,h1]),rfl⟩
def Mem.e(m:Mem):Int:=uY m.name m.state m.aI m.addr
def ba:List Mem->Int
 |[]=>0
 |m::r=>if m.e=0 then ba r else m.e
theorem cS:∀(ms:List Mem),(∀j,j<ms.length->(ms.getD j dm).e=0)->ba ms=0
 |[],_=>rfl
 |m::r,h=>by
  have h0:=h 0 (by simp);simp only[I8] at h0;rw[ba,if_pos h0];exact cS r λj hj=>by have:=h (j+1) (by simpa using hj);simpa using this
theorem ez:∀(ms:List Mem) (k:Nat),k<ms.length->(∀j,j<k->(ms.getD j dm).e=0)->(ms.getD k dm).e≠0->ba ms=(ms.getD k dm).e
 |[],k,h,_,_=>by simp at h
 |m::r,0,_,_,aP=>by
  simp only[I8] at aP ⊢;rw[ba,if_neg aP]
 |m::r,k+1,h,hz,aP=>by
  have h0:=hz 0 (by omega);simp only[I8] at h0;rw[ba,if_pos h0,JH];rw[JH] at aP;exact ez r k (by simpa using h) (λj hj=>by have:=hz (j+1) (by omega);simpa using this) aP
def aR:List Mem->Bool
 |a::b::r=>less a.name b.name&&aR (b::r)
 |_=>true
theorem iu:∀(ms:List Mem),(∀j,j+1<ms.length->less (ms.getD j dm).name (ms.getD (j+1) dm).name=true)->aR ms=true
 |[],_=>rfl
 |[_],_=>rfl
 |a::b::r,h=>by
  have h0:=h 0 (by simp);simp only[I8,JH] at h0;rw[aR,h0,Q7];exact iu (b::r) λj hj=>by have:=h (j+1) (by simpa using hj);simpa using this
theorem jn:∀(ms:List Mem),aR ms=true->∀j,j+1<ms.length->less (ms.getD j dm).name (ms.getD (j+1) dm).name=true
 |[],_,j,h=>by simp at h
 |[_],_,j,h=>by simp at h
 |a::b::r,hr,0,_=>by
  rw[aR,IG] at hr;simpa using hr.1
 |a::b::r,hr,j+1,h=>by
  rw[aR,IG] at hr;have:=jn (b::r) hr.2 j (by simpa using h);simpa using this
def bp(ms:List Mem):Int:=if 20<ms.length then 2 else if ba ms=0 then(if aR ms=true then 0 else 4) else ba ms
theorem uH(ms:List Mem)(k:Nat)(hn:ms.length<=20)(hk:k<ms.length)(hz:∀j,j<k->(ms.getD j dm).e=0)(aP:(ms.getD k dm).e≠0):bp ms=(ms.getD k dm).e:=by
 have h:=ez ms k hk hz aP;rw[bp,if_neg (by omega),h,if_neg aP]
theorem alh(ms:List Mem)(hn:ms.length<=20)(hz:∀j,j<ms.length->(ms.getD j dm).e=0)(hl:∀j,j+1<ms.length->less (ms.getD j dm).name (ms.getD (j+1) dm).name=true):bp ms=0:=by
 rw[bp,if_neg (by omega),cS ms hz,if_pos rfl,if_pos (iu ms hl)]
structure At(ms:List Mem)(t:ByteArray)(p:Nat)(f:Bool):Prop where
 le:p<=ms.length
 lo:∀j,j<p->bW (ms.getD j dm).name t<0
 hi:∀j,p<=j->j<ms.length->0<=bW (ms.getD j dm).name t
 is:f=true↔p<ms.length/\bW (ms.getD p dm).name t=0
def dn(a b:Mem):Bool:=wY a.state a.aI a.addr a.server b.state b.aI b.addr b.server
def aN:List Mem->Mem->List Mem
 |[],m=>[m]
 |x::r,m=>if bW x.name m.name<0 then x::aN r m else if bW x.name m.name=0 then(if dn m x=true then m::r else x::r) else m::x::r
abbrev aT(ms:List Mem):Prop:=ms.Pairwise λa b=>less a.name b.name=true
theorem mM:∀ms:List Mem,aR ms=true->aT ms
 |[],_=>.nil
 |[x],_=>by simp[aT]
 |a::b::r,h=>by
  rw[aR,IG] at h;have ih:=mM (b::r) h.2;refine JB.2 ⟨λc hc=>?_,ih⟩;rcases IN.1 hc with rfl|hc
  .exact h.1
  .exact fT h.1 (JQ ih hc)
theorem kL:∀ms:List Mem,aT ms->aR ms=true
 |[],_=>rfl
 |[x],_=>rfl
 |a::b::r,h=>by
  rw[aR,JQ h (by simp),Q7];exact kL (b::r) (List.Pairwise.of_cons h)
theorem eu{ms:List Mem}(h:aT ms)(t:ByteArray):∀i j,i<=j->j<ms.length->bW (ms.getD j dm).name t<0->bW (ms.getD i dm).name t<0:=by
 intro i j jS hj aX;rcases Nat.lt_or_eq_of_le jS with VW|rfl
 .have hp:=List.pairwise_iff_getElem.1 h i j (by omega) hj VW
  rw[fq] at aX ⊢;have e1:ms.getD i dm=ms[i]:=by simp[Ir,Ic (show i<ms.length by omega)]
  have e2:ms.getD j dm=ms[j]:=by simp[Ir,Ic hj]
  rw[e1];rw[e2] at aX;exact fT hp aX
 .exact aX
theorem dy:∀(ms:List Mem) (m:Mem) (p:Nat) (f:Bool),At ms m.name p f ->
 aN ms m=if f=true then(if dn m (ms.getD p dm)=true then ms.set p m else ms) else ms.take p++m::ms.drop p
 |[],m,p,f,h=>by
  have hp:p=0:=by have:=h.le;simpa using this
  subst hp;have hf:f=false:=by
   cases f
   .rfl
   .have:=h.is.1 rfl;simp at this
  subst hf;simp[aN]
 |x::r,m,0,f,h=>by
  have h0:=h.hi 0 (Ie _) (by simp);simp only[I8] at h0;rw[aN,if_neg (by omega)];cases f
  .have aP:¬ bW x.name m.name=0:=λe=>by have:=h.is.2 ⟨by simp,by simpa using e⟩;cases this
   rw[if_neg aP];simp
  .have he:=(h.is.1 rfl).2
   simp only[I8] at he;rw[if_pos he];simp only[I8,List.set_cons_zero,if_pos]
 |x::r,m,p+1,f,h=>by
  have h0:=h.lo 0 (by omega);simp only[I8] at h0;have hr:At r m.name p f:=⟨by have:=h.le;simpa using this,λj hj=>by have:=h.lo (j+1) (by omega);simpa using this,
   λj hj hl=>by have:=h.hi (j+1) (by omega) (by simpa using hl);simpa using this,by have:=h.is;simpa using this⟩
  rw[aN,if_pos h0,dy r m p f hr];cases f
  .simp
  .simp only[if_pos,JH,List.set_cons_succ]
   split<;>rfl
theorem di:∀(ms:List Mem) (m x:Mem),x∈aN ms m->x=m\/x∈ms
 |[],m,x,h=>by simp[aN] at h;exact .inl h
 |y::r,m,x,h=>by
  rw[aN] at h;split at h
  .rcases IN.1 h with rfl|h
   .exact .inr (by simp)
   .rcases di r m x h with h|h
    .exact .inl h
    .exact .inr (by simp[h])
  .split at h
   .split at h
    .rcases IN.1 h with h|h
     .exact .inl h
     .exact .inr (by simp[h])
    .exact .inr h
   .rcases IN.1 h with h|h
    .exact .inl h
    .exact .inr h
theorem fY:∀(ms:List Mem) (m:Mem),aT ms->aT (aN ms m)
 |[],m,_=>by simp[aN]
 |x::r,m,h=>by
  have hx:=JB.1 h;rw[aN];split
  .rename_i aX
   refine JB.2 ⟨λy hy=>?_,fY r m hx.2⟩;rcases di r m y hy with rfl|hy
   .exact(fq _ _).1 aX
   .exact hx.1 y hy
  .rename_i aX
   split
   .rename_i he
    have hn:=(bL _ _).1 he;split
    .exact JB.2 ⟨λy hy=>by rw[<- hn];exact hx.1 y hy,hx.2⟩
    .exact h
   .rename_i he
    have hg:less m.name x.name=true:=(oS _ _).1 (by omega);refine JB.2 ⟨λy hy=>?_,h⟩;rcases IN.1 hy with rfl|hy
    .exact hg
    .exact fT hg (hx.1 y hy)
theorem mo:∀(ms:List Mem) (m:Mem),ms.length<=(aN ms m).length/\(aN ms m).length<=ms.length+1
 |[],m=>by simp[aN]
 |x::r,m=>by
  have:=mo r m;rw[aN];split
  .simp;omega
  .split
   .split<;>simp
   .simp
def aB(a b:List Mem):List Mem:=b.foldl aN a
theorem dz:∀(b a:List Mem),aT a->aT (aB a b)
 |[],_,h=>h
 |m::r,a,h=>dz r (aN a m) (fY a m h)
theorem dj:∀(b a:List Mem),(aB a b).length<=a.length+b.length
 |[],_=>by simp[aB]
 |m::r,a=>by
  have h1:=dj r (aN a m);have h2:=mo a m;simp only[aB,OI,List.length_cons] at *;omega
theorem eZ{ms:List Mem}{nm:ByteArray}{p q:Nat}{f e:Bool}(h:At ms nm p f)(k:At ms nm q e):p=q/\f=e:=by
 have Mb:p=q:=by
  rcases Nat.lt_trichotomy p q with aX|rfl|aX
  .have h1:=k.lo p aX
   have h2:=h.hi p (Ie _) (by have:=k.le;omega);omega
  .rfl
  .have h1:=h.lo q aX
   have h2:=k.hi q (Ie _) (by have:=h.le;omega);omega
 subst Mb;refine⟨rfl,?_⟩;rw[Bool.eq_iff_iff,h.is,k.is]
theorem lJ{ms:List Mem}{m:Mem}(h:∀m∈ms,m.name.size<=Io)(hm:m.name.size<=Io):∀x∈aN ms m,x.name.size<=Io:=by
 intro x hx;rcases di ms m x hx with rfl|hx
 .exact hm
 .exact h x hx
theorem iP:∀(b a:List Mem),(∀m∈a,m.name.size<=Io)->(∀m∈b,m.name.size<=Io)->∀x∈aB a b,x.name.size<=Io
 |[],_,ha,_=>ha
 |m::r,a,ha,hb=>iP r (aN a m) (lJ ha (hb m (by simp))) (λx hx=>hb x (by simp[hx]))
theorem gd(a b:List Mem)(j:Nat)(hj:j<b.length):aB a (b.take (j+1))=aN (aB a (b.take j)) (b.getD j dm):=by
 have e:b.getD j dm=b[j]:=by simp[Ir,Ic hj]
 rw[e,List.take_succ_eq_append_getElem hj,aB,List.foldl_append,aB];rfl
theorem vL:∀(a:List Mem) (m:Mem),(∀x∈a,less x.name m.name=true)->aN a m=a++[m]
 |[],_,_=>rfl
 |x::r,m,h=>by
  rw[aN,if_pos ((fq _ _).2 (h x (by simp))),vL r m (λy hy=>h y (by simp[hy]))];rfl
theorem yo:∀(b a:List Mem),aT (a++b)->aB a b=a++b
 |[],a,_=>by simp[aB]
 |m::r,a,h=>by
  have h1:=vL a m λx hx=>(List.pairwise_append.1 h).2.2 x hx m (by simp);have h2:=yo r (a++[m]) (by simpa using h);simp only[aB,OI,h1] at h2 ⊢;rw[h2];simp
theorem ju(b:List Mem)(h:aT b):aB [] b=b:=yo b [] h
theorem aj{ms:List Mem}(h:bp ms=0):ms.length<=20/\aT ms/\ba ms=0:=by
 unfold bp at h;split at h
 .omega
 .split at h
  .rename_i h1 h2
   split at h
   .rename_i h3
    exact⟨by omega,mM ms h3,h2⟩
   .omega
  .rename_i h1 h2;exact absurd h h2
def aY(a b:List Mem):Int:=if bp a=0 then bp b else bp a
def dV(a b:List Mem)(k:Nat):List Mem:=if k=0 then[] else if k=1 then a else aB a b
def aJ(a b:List Mem):Int:=if aY a b=0 then(if 20<(aB a b).length then 2 else 0) else aY a b
theorem fW(ms:List Mem)(h:∀j,j+1<ms.length->bW (ms.getD j dm).name (ms.getD (j+1) dm).name<0):aR ms=true:=iu ms λj hj=>(fq _ _).1 (h j hj)
theorem fV(ms:List Mem)(h:aR ms=true):∀j,j+1<ms.length->bW (ms.getD j dm).name (ms.getD (j+1) dm).name<0:=λj hj=>(fq _ _).2 (jn ms h j hj)
theorem tn(ms:List Mem)(hn:ms.length<=20)(hz:∀j,j<ms.length->(ms.getD j dm).e=0):bp ms=if aR ms=true then 0 else 4:=by
 rw[bp,if_neg (by omega),cS ms hz,if_pos rfl]
theorem dK(a b:Mem)(w:World) :
 aK 138 #[Ik #[Y a.name,U O a.state,U O a.aI,U O a.addr,Ia a.server],Ik #[Y b.name,U O b.state,U O b.aI,U O b.addr,Ia b.server]] w λe w'=>e=AT (U O (bW a.name b.name))/\Below w.heap.size w w':=by
 go_enter Tryz.func138,Tryz.ntmps138;go_wp2_with (go_at_call 70;refine(iq _ _ _).mono ?_;rintro e w' ⟨rfl,rfl⟩);go_ret;exact⟨rfl,((Ib _ _).alloc (Ie _) _).alloc (by simp) _⟩
theorem ic(a b:Mem)(w:World) :
 aK 193 #[Ik #[Y a.name,U O a.state,U O a.aI,U O a.addr,Ia a.server],Ik #[Y b.name,U O b.state,U O b.aI,U O b.addr,Ia b.server]] w λe w'=>e=AT (Ia (dn a b))/\Below w.heap.size w w':=by
 refine(xL a.name b.name a.state a.aI a.addr a.server b.state b.aI b.addr b.server w).mono ?_;rintro e w' ⟨rfl,rfl⟩;exact⟨rfl,((Ib _ _).alloc (Ie _) _).alloc (by simp) _⟩
end Go.Proofs.YtbfghimjdlpicaaGreatDoor
namespace Go.Proofs.YtbfghimjdlpicaaGreatDoor
namespace Gw
open Go.RowKit
theorem dK(a b:bN)(w:World) :
 aK 146 #[Ik #[Y a.av,U O a.addr,U O a.version],Ik #[Y b.av,U O b.addr,U O b.version]] w λe w'=>e=AT (U O (ord a b))/\Below w.heap.size w w':=by
 go_enter Tryz.func146,Tryz.ntmps146;go_wp2_with (go_at_call 70;refine(iq _ _ _).mono ?_;rintro e w' ⟨rfl,rfl⟩);go_ret;exact⟨rfl,((Ib _ _).alloc (Ie _) _).alloc (by simp) _⟩
theorem ic(a b:bN)(w:World) :
 aK 161 #[Ik #[Y a.av,U O a.addr,U O a.version],Ik #[Y b.av,U O b.addr,U O b.version]] w λe w'=>e=AT (Ia (bF a b))/\Below w.heap.size w w':=by
 have hd:∀a b:bN,bF a b=if a.version=b.version then decide (b.addr<a.addr) else decide (b.version<a.version):=λa b=>by
  simp only[bF,zJ,RL.lex];by_cases h:a.version=b.version
  .rw[if_pos (by omega),if_pos h];congr 1;apply propext;omega
  .rw[if_neg (by omega),if_neg h];congr 1;apply propext;omega
 have HD:Hid (bF a b=if a.version=b.version then decide (b.addr<a.addr) else decide (b.version<a.version)):=hd a b;clear hd;obtain⟨ca,aa,va⟩:=a;obtain⟨cb,ab,vb⟩:=b;by_cases h1:va=vb
 .subst h1
  go_enter Tryz.func161,Tryz.ntmps161;go_wp2;go_ret;exact⟨aW (by rw[HD.out];simp),((Ib _ _).alloc (Ie _) _).alloc (by simp) _⟩
 .have Sm:(va !=vb)=true:=by simpa using h1
  go_enter Tryz.func161,Tryz.ntmps161;go_wp2;go_ret;exact⟨aW (by rw[HD.out];simp[h1]),((Ib _ _).alloc (Ie _) _).alloc (by simp) _⟩
end Gw
namespace Sv
open Go.RowKit
theorem fJ(ms:List aV)(v:Value)(w:World)(h:Sl w v ms)(hn:ms.length<=1000) :
 aK 56 #[v] w λe w'=>∃v',e=AT v'/\Own w.heap.size w' v' ms/\Below w.heap.size w w':=by
 obtain⟨a,cap,rfl,hs,h⟩:=h;obtain⟨i0,fH,dt,gJ,gB⟩:=I9 Tryz.qH;cases a with
 |none=>
  have he:ms=[]:=by
   rcases h with h|⟨b,off,h,_⟩
   .exact h
   .cases h
  subst he;clear h hs;have gV:=λ(w:World)=>Jy (P:=AS) w 41 38 be 0 cap 0 0 JA;simp only[List.length_nil,Option.isNone_none] at gV ⊢;go_enter Tryz.func56,Tryz.ntmps56;go_wp2_with fail;go_ret;exact⟨_,rfl,cv _ _,Ib _ _⟩
 |some a=>
  have gV:=λ(w:World)=>Jy (P:=AS) w 41 38 (AI a) ms.length cap 0 0 JA;simp only[Option.isNone_some] at gV;have hnews:Hid (∀j u,(fl ms)[j]?=AI u->(w.alloc (By #[] 38)).cell? (a.add j)=AI u):=by
   intro j u hj;rcases h with h|⟨b,off,h,hb,hr⟩
   .subst h;simp[fl] at hj
   .cases h
    have VX:j<ms.length*9:=by rw[<- da];exact(List.getElem?_eq_some_iff.1 hj).1
    have h1:=eK ms (j/9) (by omega) (j%9) (by omega);rw[show j/9*9+j%9=j by omega,hj] at h1;rw[I5,World.cell?_alloc_past (w:=w) _ b _ hb];obtain⟨c0,c1,c2,c3,c4,c5,c6,c7,c8⟩:=hr (j/9) (by omega);have cE:j%9=0\/j%9=1\/j%9=2\/j%9=3\/j%9=4\/j%9=5\/j%9=6\/j%9=7\/j%9=8:=by omega
    rcases cE with e|e|e|e|e|e|e|e|e
    .rw[show off+j=off+j/9*9 by omega,c0];rw[e] at h1;simpa[aV.cs] using h1.symm
    .rw[show off+j=off+j/9*9+1 by omega,c1];rw[e] at h1;simpa[aV.cs] using h1.symm
    .rw[show off+j=off+j/9*9+2 by omega,c2];rw[e] at h1;simpa[aV.cs] using h1.symm
    .rw[show off+j=off+j/9*9+3 by omega,c3];rw[e] at h1;simpa[aV.cs] using h1.symm
    .rw[show off+j=off+j/9*9+4 by omega,c4];rw[e] at h1;simpa[aV.cs] using h1.symm
    .rw[show off+j=off+j/9*9+5 by omega,c5];rw[e] at h1;simpa[aV.cs] using h1.symm
    .rw[show off+j=off+j/9*9+6 by omega,c6];rw[e] at h1;simpa[aV.cs] using h1.symm
    .rw[show off+j=off+j/9*9+7 by omega,c7];rw[e] at h1;simpa[aV.cs] using h1.symm
    .rw[show off+j=off+j/9*9+8 by omega,c8];rw[e] at h1;simpa[aV.cs] using h1.symm
  have HO:Hid ((w.alloc (By #[] 38)).ownsRow w.heap.size 38 9 (J (AI ⟨w.heap.size,0,be⟩) 0 0) 0 []):=World.ownsRow_made w #[] 0 (Ie _) (by unfold Io;omega) rfl;clear h hs;go_enter Tryz.func56,Tryz.ntmps56;go_wp2_with (at_builtin;refine IZ _ rfl _ _ 41 rfl w.heap.size 38 i0 _ 9 104 JA fH dt gJ gB rfl (by omega) _ 0 [] rfl HO.out a ms.length cap (fl ms) rfl (da ms) hnews.out (iK ms) (by unfold Io;omega) (by omega) (by simp) ?_);intro v' w' r1 r2 r3;go_wp2_with fail;go_ret;refine⟨v',rfl,?_,?_⟩
  .simpa using r1
  .exact((Ib _ _).alloc (Ie _) _).grown r2 (by simp) (λk hk=>by simp[JF] at hk;omega)
end Sv
end Go.Proofs.YtbfghimjdlpicaaGreatDoor
