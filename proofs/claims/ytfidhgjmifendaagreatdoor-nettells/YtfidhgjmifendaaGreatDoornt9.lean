import Derived.Test.YtfidhgjmifendaaGreatDoornt8
set_option maxHeartbeats 4000000
set_option maxRecDepth 100000
open Go.Obj renaming cells→AT
open Option renaming none→be,some→AI
open Go.Value renaming int→U,slice→J,agg→Ij,string→Y,bool→Ia,func→IQ,tuple→Ik
open Go.IntKind renaming i64→O
open Go.Ending renaming returned→By
open Go.Proofs.Tryz renaming ntmps129→Q1,func172→QN,ntmps172→Qy,prog→AS
open Go renaming wp_loop_rounds→J7,rounds_succ→JS,heap_alloc_new→Ih,redrawn→Iz,Regrown→JW,wp_region_quiet_below→IJ,below_drewN→I8,maxLen→Il
open Go.RowKit.Below renaming refl→Ib
open Nat renaming le_refl→Ic,not_lt_zero→Jq,lt_succ_iff_lt_or_eq→Jc,zero_le→II,zero_add→IC,lt_of_lt_of_le→IN
open Go.World renaming new_ne→QM
open Go.Sort renaming grow→Io
open Go.Calls renaming regrown_of→I3
open List renaming mem_of_mem_take→Jf,length_take_le→JM,take_of_length_le→Jl,all_eq_true→OK,getElem_of_mem→IU,getD→Ip,getElem?_eq_getElem→If,getElem_mem→IH
open Exists renaming intro→Ql
open Go.World.ownsRow renaming frozenAt→I7
open ByteArray renaming empty→Iv
namespace Go.Proofs.YtfidhgjmifendaaGreatDoor
namespace Sv
open Go.RowKit
theorem wF{W:World}{cs:Array Value}{t:TypeId}{g k:Nat}(hg:g=W.heap.size):(W.alloc (AT cs t)).cell? ⟨g,k,be⟩=cs[k]?:=by subst hg;simp
theorem An{a b:ByteArray}(h:¬ a=b):Op.bytesLess a.toList b.toList = !Op.bytesLess b.toList a.toList:=by
 have h1:=sz b.toList a.toList;rw[(jG h).1,Bool.or_false] at h1;exact h1.symm
def Ps(a b:Int):Int:=if a=0 then b else a
theorem Bg(a b:Int)(g:Nat)(c:Nat)(w:World)(h0:w.cell? ⟨g,0,be⟩=AI (U O a))(h1:w.cell? ⟨g,1,be⟩=AI (U O b)) :
 aF 129 #[J (AI ⟨g,0,be⟩) 2 c] w λe w'=>e=By (U O (Ps a b))/\w'=w:=by
 by_cases ha:a=0
 .subst ha
  by_cases hb:b=0
  .subst hb
   go_enter Tryz.func129,Q1;go_wp2_with fail;refine J7 3 ?_;rw[JS];go_wp2_with fail;rw[JS];go_wp2_with fail;rw[JS];go_wp2_with fail;go_ret;exact⟨rfl,rfl⟩
  .have wG:(b !=0)=true:=by simpa using hb
   go_enter Tryz.func129,Q1;go_wp2_with fail;refine J7 3 ?_;rw[JS];go_wp2_with fail;rw[JS];go_wp2_with fail;go_ret;exact⟨rfl,rfl⟩
 .have ha':(a !=0)=true:=by simpa using ha
  go_enter Tryz.func129,Q1;go_wp2_with fail;refine J7 3 ?_;rw[JS];go_wp2_with fail;go_ret;exact⟨ai (by unfold Ps;rw[if_neg ha]),rfl⟩
theorem dj(a b:aT)(w:World) :
 aF 157 #[Ij #[Y a.node,Y a.bu,Y a.name,Y a.tag,U O a.addr,U O a.port,Ia a.aj,U O a.version,Ia a.gone],Ij #[Y b.node,Y b.bu,Y b.name,Y b.tag,U O b.addr,U O b.port,Ia b.aj,U O b.version,Ia b.gone]] w λe w'=>e=By (U O (ord a b))/\Below w.heap.size w w':=by
 go_enter Tryz.func157,Tryz.ntmps157;go_wp2_with fail;obtain⟨W,hW⟩:∃W,W=(w.alloc (AT #[Y a.node,Y a.bu,Y a.name,Y a.tag,U O a.addr,U O a.port,Ia a.aj,U O a.version,Ia a.gone] 46)).alloc (AT #[Y b.node,Y b.bu,Y b.name,Y b.tag,U O b.addr,U O b.port,Ia b.aj,U O b.version,Ia b.gone] 46):=⟨_,rfl⟩;rw[<- hW];have rj:Below w.heap.size w W:=by rw[hW];exact((Ib _ _).alloc (Ic _) _).alloc (by simp) _
 have Vx:W.heap[w.heap.size]?=AI (AT #[Y a.node,Y a.bu,Y a.name,Y a.tag,U O a.addr,U O a.port,Ia a.aj,U O a.version,Ia a.gone] 46 (0,0)):=by
  rw[hW,Below.heap_alloc _ _ _ (by simp)];exact Ih w _
 have AW:W.heap[w.heap.size+1]?=AI (AT #[Y b.node,Y b.bu,Y b.name,Y b.tag,U O b.addr,U O b.port,Ia b.aj,U O b.version,Ia b.gone] 46 (0,0)):=by
  have h:=Ih (w.alloc (AT #[Y a.node,Y a.bu,Y a.name,Y a.tag,U O a.addr,U O a.port,Ia a.aj,U O a.version,Ia a.gone] 46)) (AT #[Y b.node,Y b.bu,Y b.name,Y b.tag,U O b.addr,U O b.port,Ia b.aj,U O b.version,Ia b.gone] 46);rw[hW];simpa using h
 have n0:W.cell? ⟨w.heap.size,0,be⟩=AI (Y a.node):=ae Vx 0;have n1:W.cell? ⟨w.heap.size,1,be⟩=AI (Y a.bu):=ae Vx 1;have m0:W.cell? ⟨w.heap.size+1,0,be⟩=AI (Y b.node):=ae AW 0;have m1:W.cell? ⟨w.heap.size+1,1,be⟩=AI (Y b.bu):=ae AW 1;have lM:Hid (Below w.heap.size w W):=rj;have Mn:=rj.size;have h1:=QM W _ n0;have h2:=QM W _ n1;have h3:=QM W _ m0;have h4:=QM W _ m1;clear Vx AW hW rj;go_region_held3 (λw'=>w'.cell? ⟨w.heap.size,0,be⟩=AI (Y a.node)/\w'.cell? ⟨w.heap.size,1,be⟩=AI (Y a.bu)/\w'.cell? ⟨w.heap.size+1,0,be⟩=AI (Y b.node)/\w'.cell? ⟨w.heap.size+1,1,be⟩=AI (Y b.bu)) (go_keep) (first|(go_at_call 49;refine(gn _ _ _).mono ?_;rintro e w' ⟨rfl,rfl⟩)|(go_at_call 129;refine(Bg (bO a.node b.node) (bO a.bu b.bu) _ _ _ (wF rfl) (wF rfl)).mono ?_;rintro e w' ⟨rfl,rfl⟩))
 go_wp2_with fail;go_ret;exact⟨rfl,(lM.out.alloc Mn _).drew⟩
theorem iS(a b:aT):bP a b=if a.version=b.version then(if a.gone=b.gone then(if a.name=b.name then(if a.tag=b.tag then(if a.addr=b.addr then(if a.port=b.port then(a.aj&&!b.aj) else decide (b.port<a.port)) else decide (b.addr<a.addr)) else less b.tag a.tag) else less b.name a.name) else a.gone) else decide (b.version<a.version):=by
 have hI:∀x y:Int,(x-y=0)↔x=y:=λx y=>by omega
 have hB:∀x y:Bool,(RL.bI x=RL.bI y)↔x=y:=λx y=>⟨λh=>RL.BC (by omega),λh=>by rw[h]⟩;have hP:∀x y:Int,(0<x-y)↔y<x:=λx y=>by omega
 have hL:∀x y:ByteArray,decide (0<bO x y)=less y x:=λx y=>by rw[Bool.eq_iff_iff,decide_eq_true_eq];exact nf x y
 have hG:∀x y:Bool,x≠y->decide (0<RL.bI x-RL.bI y)=x:=λx y h=>by cases x<;>cases y<;>simp[RL.bI] at h ⊢
 have hQ:∀x y:Bool,decide (0<RL.bI x-RL.bI y)=(x&&!y):=λx y=>by cases x<;>cases y<;>simp[RL.bI]
 simp only[bP,xy,RL.lex,hI,hB,bT];by_cases h1:a.version=b.version
 .simp only[if_pos h1]
  by_cases h2:a.gone=b.gone
  .simp only[if_pos h2]
   by_cases h3:a.name=b.name
   .simp only[if_pos h3]
    by_cases h4:a.tag=b.tag
    .simp only[if_pos h4]
     by_cases h5:a.addr=b.addr
     .simp only[if_pos h5]
      by_cases h6:a.port=b.port
      .simp only[if_pos h6];exact hQ _ _
      .simp only[if_neg h6,hP]
     .simp only[if_neg h5,hP]
    .simp only[if_neg h4];exact hL _ _
   .simp only[if_neg h3];exact hL _ _
  .simp only[if_neg h2];exact hG _ _ h2
 .simp only[if_neg h1,hP]
theorem Cz(f:Nat)(hf:f=172)(a_node:ByteArray)(a_idn:ByteArray)(a_name:ByteArray)(a_tag:ByteArray)(a_addr:Int)(a_port:Int)(a_passing:Bool)(a_version:Int)(a_gone:Bool)(b_node:ByteArray)(b_idn:ByteArray)(b_name:ByteArray)(b_tag:ByteArray)(b_addr:Int)(b_port:Int)(b_passing:Bool)(b_version:Int)(b_gone:Bool)(w:World) :
 kx f #[Ij #[Y a_node,Y a_idn,Y a_name,Y a_tag,U O a_addr,U O a_port,Ia a_passing,U O a_version,Ia a_gone],Ij #[Y b_node,Y b_idn,Y b_name,Y b_tag,U O b_addr,U O b_port,Ia b_passing,U O b_version,Ia b_gone]] w (Ia (bP ⟨a_node,a_idn,a_name,a_tag,a_addr,a_port,a_passing,a_version,a_gone⟩ ⟨b_node,b_idn,b_name,b_tag,b_addr,b_port,b_passing,b_version,b_gone⟩)):=by
 subst hf;have hB:Hid (Below w.heap.size w ((w.alloc (AT #[Y a_node,Y a_idn,Y a_name,Y a_tag,U O a_addr,U O a_port,Ia a_passing,U O a_version,Ia a_gone] 46)).alloc (AT #[Y b_node,Y b_idn,Y b_name,Y b_tag,U O b_addr,U O b_port,Ia b_passing,U O b_version,Ia b_gone] 46))):=((Ib _ _).alloc (Ic _) _).alloc (by simp) _;by_cases h1:a_version=b_version
 .subst h1
  by_cases h2:a_gone=b_gone
  .subst h2
   by_cases h3:a_name=b_name
   .subst h3
    by_cases h4:a_tag=b_tag
    .subst h4
     by_cases h5:a_addr=b_addr
     .subst h5
      by_cases h6:a_port=b_port
      .subst h6
       cases a_passing
       all_goals
        go_enter QN,Qy;go_wp2;go_ret;exact⟨ba (by rw[iS];simp),hB.out⟩
      .have h6':(a_port !=b_port)=true:=by simpa using h6
       go_enter QN,Qy;go_wp2;go_ret;exact⟨ba (by rw[iS];simp[h6]),hB.out⟩
     .have h5':(a_addr !=b_addr)=true:=by simpa using h5
      go_enter QN,Qy;go_wp2;go_ret;exact⟨ba (by rw[iS];simp[h5]),hB.out⟩
    .obtain⟨g1,g2⟩:=jG h4
     have H4:Hid (¬ a_tag=b_tag):=h4;clear h4;go_enter QN,Qy;go_wp2;go_ret;exact⟨ba (by rw[iS];simp[H4.out,less];exact An H4.out),hB.out⟩
   .obtain⟨g1,g2⟩:=jG h3
    have H3:Hid (¬ a_name=b_name):=h3;clear h3;go_enter QN,Qy;go_wp2;go_ret;exact⟨ba (by rw[iS];simp[H3.out,less];exact An H3.out),hB.out⟩
  .have hg:b_gone = !a_gone:=by cases a_gone<;>cases b_gone<;>simp at h2 ⊢
   subst hg;clear h2;cases a_gone
   all_goals
    go_enter QN,Qy;go_wp2;go_ret;exact⟨ba (by rw[iS];simp),hB.out⟩
 .have PF:(a_version !=b_version)=true:=by simpa using h1
  go_enter QN,Qy;go_wp2;go_ret;exact⟨ba (by rw[iS];simp[h1]),hB.out⟩
theorem gf(a b:aT)(w:World) :
 aF 172 #[Ij #[Y a.node,Y a.bu,Y a.name,Y a.tag,U O a.addr,U O a.port,Ia a.aj,U O a.version,Ia a.gone],Ij #[Y b.node,Y b.bu,Y b.name,Y b.tag,U O b.addr,U O b.port,Ia b.aj,U O b.version,Ia b.gone]] w λe w'=>e=By (Ia (bP a b))/\Below w.heap.size w w':=
 Cz _ rfl a.node a.bu a.name a.tag a.addr a.port a.aj a.version a.gone b.node b.bu b.name b.tag b.addr b.port b.aj b.version b.gone w
end Sv
namespace Sv
open Go.RowKit
theorem jF(ms:List aT)(b off cap:Nat)(w:World)(hr:Row w b off ms)(hb:b<w.heap.size)(hn:ms.length<=40) :
 Calls AS 156 #[J (AI ⟨b,off,be⟩) ms.length cap,IQ (.func 157) #[] #[]] w λe w'=>e=By (Ia (aL ms))/\Below w.heap.size w w':=by
 have HR:Hid (Row w b off ms):=hr;clear hr;have H4:Hid (∀k,k+1<ms.length->0<=ord (ms.getD k dm) (ms.getD (k+1) dm)->aL ms=false):=λk hk hl=>by
  rcases h:aL ms with _|_
  .rfl
  .have:=fq ms h k hk;omega
 have H0:Hid ((∀j,j+1<ms.length->ord (ms.getD j dm) (ms.getD (j+1) dm)<0)->aL ms=true):=fp ms;generalize hN:ms.length=n at *;have HN:Hid (ms.length=n):=hN;clear hN;generalize hC:aL ms=res at *;have HC:Hid (aL ms=res):=hC;clear hC;go_enter Tryz.func156,Tryz.ntmps156;go_wp2_with fail;go_loopw [5] (λi w'=>∃k:Nat,(k+1<=n\/k=0)/\i=U O (k+1)/\Below w.heap.size w w'/\Hid (∀j,j<k->ord (ms.getD j dm) (ms.getD (j+1) dm)<0)) (λi _=>n-(intOf i).toNat)
 case atStart=>exact⟨0,.inr rfl,rfl,Ib _ _,λj h=>absurd h (Jq _)⟩
 case round=>
  obtain⟨q,hq,rfl,aN,hz⟩:=hrel;obtain⟨eG,nz⟩:=cz aN;have cF:=aN.size;by_cases aW:q+1<n
  .have F:=((HR.out q (by rw[HN.out];omega)).eq (λo=>eG b o hb)).re
   have G:=((HR.out (q+1) (by rw[HN.out];exact aW)).eq (λo=>eG b o hb)).re;have HK:Hid (0<=ord (ms.getD q dm) (ms.getD (q+1) dm)->res=false):=λh=>H4.out q aW h;have HZ:Hid (ord (ms.getD q dm) (ms.getD (q+1) dm)<0->∀j,j<q+1->ord (ms.getD j dm) (ms.getD (j+1) dm)<0):=λh j hj=>by
    rcases Jc.1 hj with h2|rfl
    .exact hz.out j h2
    .exact h
   generalize ms.getD q dm=m1 at *;generalize ms.getD (q+1) dm=m2 at *;have hN:∀d os,Calls AS 157 #[Ij #[Y m1.node,Y m1.bu,Y m1.name,Y m1.tag,U O m1.addr,U O m1.port,Ia m1.aj,U O m1.version,Ia m1.gone],Ij #[Y m2.node,Y m2.bu,Y m2.name,Y m2.tag,U O m2.addr,U O m2.port,Ia m2.aj,U O m2.version,Ia m2.gone]] (Io (Iz wr d) os) λe gD=>e=By (U O (ord m1 m2))/\∃p:JW,gD=Io (Iz wr p.d) p.os:=λd os=>I3 (dj m1 m2 _);simp only[As] at F G;clear eG nz;generalize ord m1 m2=r at *;have Gl:IntKind.i64.wrap (q:Int)=(q:Int):=by rw[IntKind.wrap_i64];omega
   have Eg:q<n:=by omega
   have TW:(q:Int)+1<(n:Int):=by omega
   have TX:(0:Int)<=(q:Int)+1:=by omega
   have DZ:((q:Int)+1).toNat=q+1:=by omega
   go_wp2_with fail;refine IJ (by kernel_rfl) (by kernel_rfl) ?_;repeat(quiet_step (exact hN _ _))
   refine bN λdq kj ed=>?_;clear hN F G;by_cases hl:r<0
   .have mB:¬ (0<=r):=by omega
    go_wp2_with fail;go_roundw
    case rel=>exact⟨q+1,.inl (by omega),by go_num,aN.trans (ed.out.mono cF),HZ.out hl⟩
    case measure=>simp[intOf];omega
   .have mB:0<=r:=by omega
    have h4:Hid (res=false):=HK.out mB;go_wp2_with fail;go_ret;exact⟨ba h4.out.symm,aN.trans (ed.out.mono cF)⟩
  .have h0:Hid (res=true):=H0.out λj hj=>hz.out j (by omega)
   go_wp2_with fail;go_ret;exact⟨ba h0.out.symm,aN⟩
theorem gj(a:Option Addr)(cap:Nat)(fv:Value)(w:World) :
 Calls AS 156 #[J a 0 cap,fv] w λe w'=>e=By (Ia true)/\w'=w:=by
 go_enter Tryz.func156,Tryz.ntmps156;go_wp2_with fail;go_loop [5] (λi=>i=U O 1) (λ_=>0)
 case atStart=>rfl
 case round=>
  subst hrel;go_wp2_with fail;go_ret;exact⟨rfl,rfl⟩
theorem gk(ms:List aT)(b off cap:Nat)(lk:aT)(w:World)(hr:Row w b off ms)(hb:b<w.heap.size)(hn:ms.length<=80)(gV:∀i j,i<=j->j<ms.length->ord (ms.getD j dm) lk<0->ord (ms.getD i dm) lk<0) :
 Calls AS 244 #[J (AI ⟨b,off,be⟩) ms.length cap,Ij #[Y lk.node,Y lk.bu,Y lk.name,Y lk.tag,U O lk.addr,U O lk.port,Ia lk.aj,U O lk.version,Ia lk.gone],IQ (.func 157) #[] #[]] w λe w'=>∃(p:Nat) (f:Bool),e=By (Ik #[U O p,Ia f])/\Below w.heap.size w w' /\
  p<=ms.length/\(∀j,j<p->ord (ms.getD j dm) lk<0)/\(∀j,p<=j->j<ms.length->0<=ord (ms.getD j dm) lk)/\(f=true↔p<ms.length/\ord (ms.getD p dm) lk=0):=by
 have HR:Hid (Row w b off ms):=hr;clear hr;have HM:Hid _:=gV;clear gV;generalize hN:ms.length=n at *;have HN:Hid (ms.length=n):=hN;clear hN;go_enter Tryz.func244,Tryz.ntmps244;go_wp2_with fail;obtain⟨W0,bJ,bM,eE,dG⟩:=bW w #[Y lk.node,Y lk.bu,Y lk.name,Y lk.tag,U O lk.addr,U O lk.port,Ia lk.aj,U O lk.version,Ia lk.gone] 46;have Es:Hid (Row W0 b off ms):=HR.out.later bM hb;have HT:Hid (As W0 w.heap.size 0 lk):=⟨ae dG 0,ae dG 1,ae dG 2,ae dG 3,ae dG 4,ae dG 5,ae dG 6,ae dG 7,ae dG 8⟩;have da:Hid (Below w.heap.size w W0):=bM;have sJ:Hid (W0=w.alloc (AT #[Y lk.node,Y lk.bu,Y lk.name,Y lk.tag,U O lk.addr,U O lk.port,Ia lk.aj,U O lk.version,Ia lk.gone] 46)):=bJ;clear dG bM HR bJ;have wG:b<w.heap.size+1:=by omega
 go_loopw [9,10] (λi j w'=>∃k l:Nat,k<=l/\l<=n/\i=U O k/\j=U O l/\Below (w.heap.size+1) W0 w'/\Hid (∀j,j<k->ord (ms.getD j dm) lk<0)/\Hid (∀j,l<=j->j<n->0<=ord (ms.getD j dm) lk)) (λi j _=>(intOf j).toNat-(intOf i).toNat)
 case atStart=>exact⟨0,n,II _,Ic _,rfl,rfl,by rw[sJ.out];exact Ib _ _,λj h=>absurd h (Jq _),λj h1 h2=>by omega⟩
 case round=>
  obtain⟨k,l,iH,Ks,rfl,rfl,aN,yq,yr⟩:=hrel;have cF:=aN.size;have eG:∀b o,b<w.heap.size+1->wr.cell? ⟨b,o,be⟩=W0.cell? ⟨b,o,be⟩:=λb o h=>aN.cell (p:=⟨b,o,be⟩) h;have G:=(HT.out.eq (λo=>eG w.heap.size o (by omega))).re;simp only[As,IC] at G;by_cases aW:k<l
  .obtain⟨h,hh,h1,h2⟩:∃h:Nat,((k:Int)+(l:Int))/2=(h:Int)/\k<=h/\h<l:=⟨(k+l)/2,by omega,by omega,by omega⟩
   have F:=((Es.out h (by rw[HN.out];omega)).eq (λo=>eG b o wG)).re;have pF:=HM.out;have HK:Hid (ord (ms.getD h dm) lk<0->∀j,j<h+1->ord (ms.getD j dm) lk<0):=λhx j hj=>pF j h (by omega) (by omega) hx;have HL:Hid (0<=ord (ms.getD h dm) lk->∀j,h<=j->j<n->0<=ord (ms.getD j dm) lk):=λhx j hj CB=>by
    apply Int.not_lt.1;intro hq;have:=pF h j hj CB hq;omega
   clear pF;have hhn:h<n:=by omega
   generalize ms.getD h dm=m at *;have hO:∀d os,Calls AS 157 #[Ij #[Y m.node,Y m.bu,Y m.name,Y m.tag,U O m.addr,U O m.port,Ia m.aj,U O m.version,Ia m.gone],Ij #[Y lk.node,Y lk.bu,Y lk.name,Y lk.tag,U O lk.addr,U O lk.port,Ia lk.aj,U O lk.version,Ia lk.gone]] (Io (Iz wr d) os) λe gD=>e=By (U O (ord m lk))/\∃p:JW,gD=Io (Iz wr p.d) p.os:=λd os=>I3 (dj m lk _);simp only[As] at F;clear eG;generalize ord m lk=r at *;go_wp2_with fail;refine IJ (by kernel_rfl) (by kernel_rfl) ?_;repeat(quiet_step (exact hO _ _))
   refine bN λdq kj ed=>?_;clear hO F G;by_cases mW:r<0
   .go_wp2_with fail
    exact⟨⟨h+1,l,by omega,by omega,by go_num,rfl,aN.trans (ed.out.mono (by omega)),HK.out mW,yr⟩,by simp[intOf];omega⟩
   .have rT:0<=r:=by omega
    go_wp2_with fail;exact⟨⟨k,h,by omega,by omega,rfl,rfl,aN.trans (ed.out.mono (by omega)),yq,HL.out rT⟩,by simp[intOf];omega⟩
  .have BS:l=k:=by omega
   subst BS;by_cases fQ:l<n
   .have F:=((Es.out l (by rw[HN.out];omega)).eq (λo=>eG b o wG)).re
    generalize hm:ms.getD l dm=m at *;have Hm:Hid (ms.getD l dm=m):=hm;clear hm;have hO:∀d os,Calls AS 157 #[Ij #[Y m.node,Y m.bu,Y m.name,Y m.tag,U O m.addr,U O m.port,Ia m.aj,U O m.version,Ia m.gone],Ij #[Y lk.node,Y lk.bu,Y lk.name,Y lk.tag,U O lk.addr,U O lk.port,Ia lk.aj,U O lk.version,Ia lk.gone]] (Io (Iz wr d) os) λe gD=>e=By (U O (ord m lk))/\∃p:JW,gD=Io (Iz wr p.d) p.os:=λd os=>I3 (dj m lk _);simp only[As] at F;clear eG;generalize EU:ord m lk=r at *;have Hr:Hid (ord m lk=r):=EU;clear EU;go_wp2_with fail;refine IJ (by kernel_rfl) (by kernel_rfl) ?_;repeat(quiet_step (exact hO _ _))
    refine bN λdq kj ed=>?_;clear hO F G;go_wp2_with fail;go_ret2;refine⟨l,_,rfl,da.out.trans ((aN.trans (ed.out.mono (by omega))).mono (by omega)),by omega,yq.out,yr.out,?_⟩;rw[Hm.out,Hr.out];simp[fQ]
   .clear G
    have hkd:decide ((l:Int)<(n:Int))=false:=by simp;omega
    go_wp2_with fail;go_quiet (fail)
    go_wp2_with fail;go_ret2;refine⟨l,_,rfl,da.out.trans ((I8 aN _).mono (by omega)),by omega,yq.out,yr.out,?_⟩;simp[fQ]
theorem fw(a:Option Addr)(cap:Nat)(lk:aT)(fv:Value)(w:World) :
 Calls AS 244 #[J a 0 cap,Ij #[Y lk.node,Y lk.bu,Y lk.name,Y lk.tag,U O lk.addr,U O lk.port,Ia lk.aj,U O lk.version,Ia lk.gone],fv] w λe w'=>e=By (Ik #[U O 0,Ia false])/\Below w.heap.size w w':=by
 go_enter Tryz.func244,Tryz.ntmps244;go_wp2_with fail;go_loop [9,10] (λi j=>i=U O 0/\j=U O 0) (λ_ _=>0)
 case atStart=>exact⟨rfl,rfl⟩
 case round=>
  obtain⟨rfl,rfl⟩:=hrel;go_wp2_with fail;go_quiet (fail)
  go_wp2_with fail;go_ret2;exact⟨rfl,I8 ((Ib _ _).alloc (Ic _) _) _⟩
theorem fx(ms:List aT)(v:Value)(lk:aT)(w:World)(h:Sl w v ms)(hn:ms.length<=80)(gV:∀i j,i<=j->j<ms.length->ord (ms.getD j dm) lk<0->ord (ms.getD i dm) lk<0) :
 Calls AS 244 #[v,Ij #[Y lk.node,Y lk.bu,Y lk.name,Y lk.tag,U O lk.addr,U O lk.port,Ia lk.aj,U O lk.version,Ia lk.gone],IQ (.func 157) #[] #[]] w λe w'=>∃(p:Nat) (f:Bool),e=By (Ik #[U O p,Ia f])/\Below w.heap.size w w'/\At ms lk p f:=by
 obtain⟨a,cap,rfl,hs,h⟩:=h;rcases h with rfl|⟨b,off,rfl,hb,hr⟩
 .refine(fw a cap lk _ w).mono ?_
  rintro e w' ⟨rfl,hb⟩;exact⟨0,false,rfl,hb,⟨by simp,λj h=>by omega,λj h h2=>by simp at h2,by simp⟩⟩
 .refine(gk ms b off cap lk w hr hb hn gV).mono ?_
  rintro e w' ⟨p,f,rfl,aN,g1,g2,g3,g4⟩;exact⟨p,f,rfl,aN,⟨g1,g2,g3,g4⟩⟩
theorem ff(ms:List aT)(v:Value)(lk:aT)(w:World)(h:Sl w v ms)(hn:ms.length<=80)(hr:bn ms) :
 Calls AS 213 #[v,Ij #[Y lk.node,Y lk.bu,Y lk.name,Y lk.tag,U O lk.addr,U O lk.port,Ia lk.aj,U O lk.version,Ia lk.gone],IQ (.func 157) #[] #[]] w λe w'=>∃(p:Nat) (f:Bool),e=By (Ik #[U O p,Ia f])/\Below w.heap.size w w'/\At ms lk p f:=by
 have HC:Hid (∀w',Below w.heap.size w w'->Calls AS 244 #[v,Ij #[Y lk.node,Y lk.bu,Y lk.name,Y lk.tag,U O lk.addr,U O lk.port,Ia lk.aj,U O lk.version,Ia lk.gone],IQ (.func 157) #[] #[]] w' λe gD=>∃(p:Nat) (f:Bool),e=By (Ik #[U O p,Ia f])/\Below w'.heap.size w' gD/\At ms lk p f):=
  λw' hb=>fx ms v lk w' (h.below hb) hn (dP hr lk)
 clear h hn hr;go_enter Tryz.func213,Tryz.ntmps213;go_wp2_with (go_at_call 244;refine(HC.out _ ?hb).mono ?_)
 case hb=>exact(Ib _ _).alloc (Ic _) _
 rintro e w' ⟨p,f,rfl,aN,cv⟩;have fS:Hid (At ms lk p f):=cv;clear cv;go_wp2_with fail;go_ret2;exact⟨p,f,rfl,((Ib _ _).alloc (Ic _) _).trans (aN.mono (by simp)),fS.out⟩
end Sv
namespace Sv
open Go.RowKit
theorem lP{a b:List aT}(kL:a.length<=40)(kK:b.length<=40)(k:Nat):(dF a b k).length<=80:=by
 unfold dF;split
 .simp
 .split
  .omega
  .have:=di b a;omega
structure Bn(w:World)(pb:Nat)(a b:List aT)(k:Nat)(l:List aT)(pk:Option Addr)(ck:Nat):Prop where
 cell:w.cell? ⟨pb,k,be⟩=AI (J pk l.length ck)
 row:l=[]\/∃b off,pk=AI ⟨b,off,be⟩/\b<w.heap.size/\Row w b off l
 Hv:∀m∈l,(m).ok
 len:l.length<=40
 Bo:(dF a b k).length<=40
 tr:bn (dF a b k)
 Bp:∀m∈dF a b k,(m).ok
 step:dF a b (k+1)=av (dF a b k) l
theorem ox{a b:List aT}{va vb:Value}{pb:Nat}{w:World}(ha:Sl w va a)(hb:Sl w vb b)(hc0:w.cell? ⟨pb,0,be⟩=AI va)(hc1:w.cell? ⟨pb,1,be⟩=AI vb)(kL:a.length<=40)(kK:b.length<=40)(ra:bn a)(k:Nat)(hk:k<2) :
 ∃l pk ck,Bn w pb a b k l pk ck:=by
 obtain⟨pa,ca,rfl,Hw,ha⟩:=ha;obtain⟨pv,cb,rfl,R6,hb⟩:=hb;have fZ:k=0\/k=1:=by omega
 rcases fZ with rfl|rfl
 .exact⟨a,pa,ca,hc0,ha,dw Hw,kL,by simp[dF],by simp[dF],by simp[dF],(iq a ra).symm⟩
 .exact⟨b,pv,cb,hc1,hb,dw R6,kK,kL,ra,dw Hw,rfl⟩
theorem iu(a b:List aT)(va vb:Value)(pb cap:Nat)(w:World)(ha:Sl w va a)(hb:Sl w vb b)(hpb:pb<w.heap.size)(hc0:w.cell? ⟨pb,0,be⟩=AI va)(hc1:w.cell? ⟨pb,1,be⟩=AI vb)(kL:a.length<=40)(kK:b.length<=40)(ra:bn a) :
 Calls AS 171 #[IQ (.func 157) #[] #[],IQ (.func 172) #[] #[],J (AI ⟨pb,0,be⟩) 2 cap] w λe w'=>∃v',e=By v'/\Own w.heap.size w' v' (av a b)/\Below w.heap.size w w':=by
 have HK:Hid (∀k,k<2->∃l pk ck,Bn w pb a b k l pk ck):=λk hk=>ox ha hb hc0 hc1 kL kK ra k hk;have uK:Hid (∀k,(dF a b k).length<=80):=lP kL kK;clear ha hb hc0 hc1 kL kK ra;go_enter Tryz.func171,Tryz.ntmps171;go_wp2_with fail;go_loopw [7,16] (λkn i w'=>∃k:Nat,k<=2/\i=U O k/\Below w.heap.size w w'/\Hid (Own w.heap.size w' kn (dF a b k))) (λ_ i _=>2-(intOf i).toNat)
 case atStart=>exact⟨0,by omega,rfl,Ib _ _,bY _ _⟩
 case round=>
  obtain⟨k,hk,rfl,aN,HO⟩:=hrel;obtain⟨eG,nz⟩:=cz aN;have cF:=aN.size;by_cases jz:k<2
  .obtain⟨l,pk,ck,oy⟩:=HK.out k jz
   have oz:Hid (Bn w pb a b k l pk ck):=oy;have fM:=oy.cell;clear oy;generalize ri:l.length=nl at *;have jZ:Hid (l.length=nl):=ri;clear ri;have Hx:nl<=40:=by have:=oz.out.len;have:=jZ.out;omega
   have R7:(k:Int)<2:=by omega
   go_wp2_with fail;go_loopw [7,22] (λkn j w'=>∃q:Nat,q<=nl/\j=U O q/\Below w.heap.size w w'/\Hid (Own w.heap.size w' kn (av (dF a b k) (l.take q)))) (λ_ j _=>nl-(intOf j).toNat)
   case atStart=>exact⟨0,II _,rfl,aN,HO⟩
   case round=>
    clear eG nz cF aN HO fM;obtain⟨q,hq,rfl,aN,HO⟩:=hrel;obtain⟨eG,nz⟩:=cz aN;have cF:=aN.size;by_cases aW:q<nl
    .obtain⟨b2,off,Bq,Pu,cQ⟩:∃xk off,pk=AI ⟨xk,off,be⟩/\xk<w.heap.size/\Row w xk off l:=by
      rcases oz.out.row with h|h
      .have:=jZ.out;rw[h] at this;simp at this;omega
      .exact h
     subst Bq;obtain⟨c0,c1,c2,c3,c4,c5,c6,c7,c8⟩:=cQ q (by rw[jZ.out];exact aW);clear cQ;have HJ:Hid (av (dF a b k) (l.take (q+1))=aP (av (dF a b k) (l.take q)) (l.getD q dm)):=gd (dF a b k) l q (by rw[jZ.out];exact aW);have HR:Hid (bn (av (dF a b k) (l.take q))):=dE _ _ oz.out.tr;have Mr:Hid (∀j,((av (dF a b k) (l.take q)).getD j dm).ok):=cB (iI _ _ oz.out.Bp (λx hx=>oz.out.Hv x (Jf hx)));have HL:Hid ((av (dF a b k) (l.take q)).length<=80):=by
      have h1:=di (l.take q) (dF a b k);have h2:(l.take q).length<=q:=JM _ _;have h3:=oz.out.Bo;show(av (dF a b k) (l.take q)).length<=80;omega
     generalize l.getD q dm=m at *;generalize av (dF a b k) (l.take q)=known at *;have Ef:known.length<=80:=HL.out;obtain⟨W1,cM,aB,fg,cK⟩:=bW wr #[Y m.node,Y m.bu,Y m.name,Y m.tag,U O m.addr,U O m.port,Ia m.aj,U O m.version,Ia m.gone] 46;have lC:Hid (Own w.heap.size W1 u7 known):=HO.out.below aB;have HF:Hid (Calls AS 213 #[u7,Ij #[Y m.node,Y m.bu,Y m.name,Y m.tag,U O m.addr,U O m.port,Ia m.aj,U O m.version,Ia m.gone],IQ (.func 157) #[] #[]] W1 λe w'=>∃(p:Nat) (f:Bool),e=By (Ik #[U O p,Ia f])/\Below W1.heap.size W1 w'/\At known m p f):=
      ff known u7 m W1 (lC.out.sl Mr.out) HL.out HR.out
     have aV:Hid (Below w.heap.size w W1):=aN.trans (aB.mono cF);have HT:Hid (As W1 wr.heap.size 0 m):=⟨ae cK 0,ae cK 1,ae cK 2,ae cK 3,ae cK 4,ae cK 5,ae cK 6,ae cK 7,ae cK 8⟩;have nZ:Hid _:=cM;have uR:w.heap.size<=W1.heap.size:=by omega
     clear cK aB HO HL HR cM;go_wp2_with fail;rw[<- nZ.out];refine HF.out.mono ?_;rintro e w2 ⟨p,f,rfl,aJ,cv⟩;have fS:Hid _:=cv;have R8:=cv.le;have R9:=aJ.size;have gX:Hid (Own _ _ _ _):=lC.out.below aJ;have bp:Hid _:=aV.out.trans (aJ.mono uR);have xl:Hid (As w2 wr.heap.size 0 m):=HT.out.eq (λo=>aJ.cell (p:=⟨wr.heap.size,o,be⟩) (by show wr.heap.size<W1.heap.size;omega));obtain⟨t0,t1,t2,t3,t4,t5,t6,t7,t8⟩:w2.cell? ⟨wr.heap.size,0,be⟩=AI (Y m.node)/\w2.cell? ⟨wr.heap.size,1,be⟩=AI (Y m.bu)/\w2.cell? ⟨wr.heap.size,2,be⟩=AI (Y m.name)/\w2.cell? ⟨wr.heap.size,3,be⟩=AI (Y m.tag)/\w2.cell? ⟨wr.heap.size,4,be⟩=AI (U O m.addr)/\w2.cell? ⟨wr.heap.size,5,be⟩=AI (U O m.port)/\w2.cell? ⟨wr.heap.size,6,be⟩=AI (Ia m.aj)/\w2.cell? ⟨wr.heap.size,7,be⟩=AI (U O m.version)/\w2.cell? ⟨wr.heap.size,8,be⟩=AI (Ia m.gone):=xl.out;have gY:w.heap.size<=w2.heap.size:=by omega
     have Br:wr.heap.size<w2.heap.size:=by omega
     clear cv HF eG nz c0 c1 c2 c3 c4 c5 c6 c7 c8 aJ lC aV HT;cases f
     .have aM:Hid (u7.ownBlock≠AI w2.heap.size):=λe=>by have:=gX.out.lt _ e;omega
      have dY:Hid (Own w.heap.size (w2.alloc (AT #[Y m.node,Y m.bu,Y m.name,Y m.tag,U O m.addr,U O m.port,Ia m.aj,U O m.version,Ia m.gone] 46)) u7 known):=gX.out.below ((Ib _ _).alloc (Ic _) _);have pt:Hid ((w2.alloc (AT #[Y m.node,Y m.bu,Y m.name,Y m.tag,U O m.addr,U O m.port,Ia m.aj,U O m.version,Ia m.gone] 46)).heap[w2.heap.size]?=AI (AT m.cs.toArray 46 (0,0))):=Ih w2 _;go_wp2_with (go_at_call 214;refine(fj w.heap.size p w2.heap.size u7 known m _ dY.out fS.out.le (by omega) (by simp;omega) pt.out aM.out).mono ?_;rintro e w4 ⟨v',rfl,g1,g2⟩);go_roundw
      case rel=>
       have jf:∃oA:Nat,oA<=nl/\U O ((q:Int)+1)=U O oA/\Below w.heap.size w w4/\Hid (Own w.heap.size w4 v' (av (dF a b k) (l.take oA))):=⟨q+1,by omega,by go_num,fc (bp.out.alloc gY _) dY.out g2 (by simp;omega),by rw[HJ.out,dd known m p false fS.out];exact g1⟩;first|exact jf|((repeat apply Ql);exact⟨jf,rfl⟩)
      case measure=>simp[intOf];omega
     .have hp:p<known.length:=(fS.out.is.1 rfl).1
      obtain⟨g,c,hu⟩:=jJ gX.out p hp;subst hu;have F:=(ez gX.out p hp).re;have dn:=gX.out.lt g rfl;have Mw:g<w2.heap.size:=dn.2;generalize hm:known.getD p dm=m2 at *;have Hm:Hid _:=hm;clear hm;have hN:∀d os,Calls AS 172 #[Ij #[Y m.node,Y m.bu,Y m.name,Y m.tag,U O m.addr,U O m.port,Ia m.aj,U O m.version,Ia m.gone],Ij #[Y m2.node,Y m2.bu,Y m2.name,Y m2.tag,U O m2.addr,U O m2.port,Ia m2.aj,U O m2.version,Ia m2.gone]] (Io (Iz w2 d) os) λe gD=>e=By (Ia (bP m m2))/\∃p:JW,gD=Io (Iz w2 p.d) p.os:=λd os=>I3 (gf m m2 _);have G:=xl.out.re;simp only[As,IC] at F G;have rf:∀o,w2.frozen? ⟨g,o,be⟩=false:=λo=>I7 gX.out o;have TF:Hid _:=rf;clear rf t0 t1 t2 t3 t4 t5 t6 t7 t8;generalize Hy:bP m m2=nw at *;have Hz:Hid _:=Hy;clear Hy;go_wp2_with fail;refine IJ (by kernel_rfl) (by kernel_rfl) ?_;repeat(quiet_step (exact hN _ _))
      refine bN λdq kj ed=>?_;clear hN F G;cases nw
      .go_wp2_with fail
       go_roundw
       case rel=>
        have jf:∃oA:Nat,oA<=nl/\U O ((q:Int)+1)=U O oA/\Below w.heap.size w (Io (Iz w2 dq) kj)/\Hid (Own w.heap.size (Io (Iz w2 dq) kj) (J (AI ⟨g,0,be⟩) known.length c) (av (dF a b k) (l.take oA))):=⟨q+1,by omega,by go_num,bp.out.trans (ed.out.mono gY),by rw[HJ.out,dd known m p true fS.out,if_pos rfl,Hm.out,if_neg (λh=>Bool.false_ne_true (Hz.out.symm.trans h))];exact gX.out.below ed.out⟩;first|exact jf|((repeat apply Ql);exact⟨jf,rfl⟩)
       case measure=>simp[intOf];omega
      .generalize Io (Iz w2 dq) kj=w3 at *
       have dY:Hid (Own _ _ _ _):=gX.out.below ed.out;obtain⟨c0,c1,c2,c3,c4,c5,c6,c7,c8⟩:=ez dY.out p hp;rw[Hm.out] at c0 c1 c2 c3 c4 c5 c6 c7 c8;have ji:=(dY.out.lt g rfl).2;have rf:∀o,w3.frozen? ⟨g,o,be⟩=false:=λo=>I7 dY.out o;obtain⟨s0,s1,s2,s3,s4,s5,s6,s7,s8⟩:w3.cell? ⟨wr.heap.size,0,be⟩=AI (Y m.node)/\w3.cell? ⟨wr.heap.size,1,be⟩=AI (Y m.bu)/\w3.cell? ⟨wr.heap.size,2,be⟩=AI (Y m.name)/\w3.cell? ⟨wr.heap.size,3,be⟩=AI (Y m.tag)/\w3.cell? ⟨wr.heap.size,4,be⟩=AI (U O m.addr)/\w3.cell? ⟨wr.heap.size,5,be⟩=AI (U O m.port)/\w3.cell? ⟨wr.heap.size,6,be⟩=AI (Ia m.aj)/\w3.cell? ⟨wr.heap.size,7,be⟩=AI (U O m.version)/\w3.cell? ⟨wr.heap.size,8,be⟩=AI (Ia m.gone):=xl.out.eq (λo=>ed.out.cell (p:=⟨wr.heap.size,o,be⟩) Br);go_wp2_with fail;refine⟨⟨q+1,by omega,by go_num,?_,?_⟩,by simp[intOf];omega⟩
       .exact((((((((((bp.out.trans (ed.out.mono gY)).setCell (p:=⟨g,p*9,be⟩) dn.1 (Y m.node)).setCell (p:=⟨g,p*9+1,be⟩) dn.1 (Y m.bu)).setCell (p:=⟨g,p*9+2,be⟩) dn.1 (Y m.name)).setCell (p:=⟨g,p*9+3,be⟩) dn.1 (Y m.tag)).setCell (p:=⟨g,p*9+4,be⟩) dn.1 (U O m.addr)).setCell (p:=⟨g,p*9+5,be⟩) dn.1 (U O m.port)).setCell (p:=⟨g,p*9+6,be⟩) dn.1 (Ia m.aj)).setCell (p:=⟨g,p*9+7,be⟩) dn.1 (U O m.version)).setCell (p:=⟨g,p*9+8,be⟩) dn.1 (Ia m.gone))
       .rw[HJ.out,dd known m p true fS.out,if_pos rfl,Hm.out,if_pos Hz.out]
        exact lr dY.out hp m
    .have Eg:q=nl:=by omega
     subst Eg;have dY:Hid (Own w.heap.size wr u7 (dF a b (k+1))):=by
      have h:=HO.out;rw[Jl (by rw[jZ.out];exact Ic _)] at h;rw[oz.out.step];exact h
     go_wp2_with fail;go_roundw
     case rel=>exact⟨k+1,by omega,by go_num,aN,dY⟩
     case measure=>simp[intOf];omega
  .have jO:k=2:=by omega
   subst jO;go_wp2_with fail;go_ret;exact⟨_,rfl,HO.out,aN⟩
end Sv
end Go.Proofs.YtfidhgjmifendaaGreatDoor
namespace Go.Proofs.YtfidhgjmifendaaGreatDoor
open Go.RowKit
theorem ou(ss:List ByteArray)(b cap:Nat)(w:World)(hb:∀j,j<ss.length->w.cell? ⟨b,j,be⟩=AI (Y (ss.getD j Iv)))(hs:∀j,(ss.getD j Iv).size<=Il)(hn:ss.length<=1000) :
 aF 34 #[J (AI ⟨b,0,be⟩) ss.length cap] w λe w'=>e=By (Ia (ss.all bb))/\w'=w:=by
 have HB:Hid _:=hb;have HS:Hid _:=hs;have H0:Hid ((∀j,j<ss.length->bb (ss.getD j Iv)=true)->ss.all bb=true):=λh=>by
  rw[OK];intro x hx;obtain⟨j,hj,rfl⟩:=IU hx;have:=h j hj;simpa[Ip,If hj] using this
 have H1:Hid (∀j,j<ss.length->bb (ss.getD j Iv)=false->ss.all bb=false):=λj hj h=>by
  rw[List.all_eq_false];refine⟨ss[j],IH hj,?_⟩;rw[show ss.getD j Iv=ss[j] by simp[Ip,If hj]] at h;simp[h]
 clear hb hs;generalize ss.all bb=res at *;generalize hN:ss.length=n at *;clear hN;go_enter Tryz.func34,Tryz.ntmps34;go_wp2_with fail;go_loop [7] (λi=>∃k:Nat,k<=n/\i=U O k/\Hid (∀j,j<k->bb (ss.getD j Iv)=true)) (λi=>n-(intOf i).toNat)
 case atStart=>exact⟨0,II _,rfl,λj h=>absurd h (Jq _)⟩
 case round=>
  obtain⟨k,hk,rfl,hz⟩:=hrel;by_cases aW:k<n
  .have hc:=HB.out k aW
   have N8:=HS.out k;have HZ:Hid (bb (ss.getD k Iv)=true->∀j,j<k+1->bb (ss.getD j Iv)=true):=λh j hj=>by
    rcases Jc.1 hj with h2|rfl
    .exact hz.out j h2
    .exact h
   have HF:Hid (bb (ss.getD k Iv)=false->res=false):=λh=>H1.out k aW h;generalize ss.getD k Iv=s at *;rcases hl:bb s with _|_
   .have HR:Hid _:=HF.out hl
    go_wp2_with (go_at_call 53;refine(bR _ _ N8).mono ?_;rintro e w' ⟨rfl,rfl⟩;rw[hl]);go_ret;exact⟨ba HR.out.symm,rfl⟩
   .go_wp2_with (go_at_call 53;refine(bR _ _ N8).mono ?_;rintro e w' ⟨rfl,rfl⟩;rw[hl])
    go_round
    case rel=>exact⟨k+1,by omega,by go_num,HZ.out hl⟩
    case measure=>simp[intOf];omega
  .have HR:Hid _:=H0.out λj hj=>hz.out j (by omega)
   go_wp2_with fail;go_ret;exact⟨ba HR.out.symm,rfl⟩
def oL(t:ByteArray):Bool:=decide (t=Iv)||bb t
theorem Ao(ss:List ByteArray)(b cap:Nat)(w:World)(hb:∀j,j<ss.length->w.cell? ⟨b,j,be⟩=AI (Y (ss.getD j Iv)))(hs:∀j,(ss.getD j Iv).size<=Il)(hn:ss.length<=1000) :
 aF 205 #[J (AI ⟨b,0,be⟩) ss.length cap] w λe w'=>e=By (Ia (ss.all oL))/\w'=w:=by
 have HB:Hid _:=hb;have HS:Hid _:=hs;have H0:Hid ((∀j,j<ss.length->oL (ss.getD j Iv)=true)->ss.all oL=true):=λh=>by
  rw[OK];intro x hx;obtain⟨j,hj,rfl⟩:=IU hx;have:=h j hj;simpa[Ip,If hj] using this
 have H1:Hid (∀j,j<ss.length->oL (ss.getD j Iv)=false->ss.all oL=false):=λj hj h=>by
  rw[List.all_eq_false];refine⟨ss[j],IH hj,?_⟩;rw[show ss.getD j Iv=ss[j] by simp[Ip,If hj]] at h;simp[h]
 clear hb hs;generalize ss.all oL=res at *;generalize hN:ss.length=n at *;clear hN;go_enter Tryz.func205,Tryz.ntmps205;go_wp2_with fail;go_loop [7] (λi=>∃k:Nat,k<=n/\i=U O k/\Hid (∀j,j<k->oL (ss.getD j Iv)=true)) (λi=>n-(intOf i).toNat)
 case atStart=>exact⟨0,II _,rfl,λj h=>absurd h (Jq _)⟩
 case round=>
  obtain⟨k,hk,rfl,hz⟩:=hrel;by_cases aW:k<n
  .have hc:=HB.out k aW
   have N8:=HS.out k;have HZ:Hid (oL (ss.getD k Iv)=true->∀j,j<k+1->oL (ss.getD j Iv)=true):=λh j hj=>by
    rcases Jc.1 hj with h2|rfl
    .exact hz.out j h2
    .exact h
   have HF:Hid (oL (ss.getD k Iv)=false->res=false):=λh=>H1.out k aW h;generalize ss.getD k Iv=s at *;by_cases hse:s=Iv
   .subst hse
    have lB:Hid _:=HZ.out (by simp[oL]);clear HZ HF;go_wp2_with fail;go_round
    case rel=>exact⟨k+1,by omega,by go_num,lB.out⟩
    case measure=>simp[intOf];omega
   .have HE:Hid (oL s=bb s):=(show oL s=bb s by simp[oL,hse])
    obtain⟨h1,h2⟩:=jG hse;have h3:¬ s.toList=[]:=λe=>h2 (by rw[e,Lib.toList_data];rfl);have h4:(s.toList==[])=false:=by simpa using h3
    clear hse;rcases hl:bb s with _|_
    .have HR:Hid _:=HF.out (by rw[HE.out,hl])
     go_wp2_with (go_at_call 53;refine(bR _ _ N8).mono ?_;rintro e w' ⟨rfl,rfl⟩;rw[hl]);go_ret;exact⟨ba HR.out.symm,rfl⟩
    .have lB:Hid _:=HZ.out (by rw[HE.out,hl])
     clear HZ HF;go_wp2_with (go_at_call 53;refine(bR _ _ N8).mono ?_;rintro e w' ⟨rfl,rfl⟩;rw[hl]);go_round
     case rel=>exact⟨k+1,by omega,by go_num,lB.out⟩
     case measure=>simp[intOf];omega
  .have HR:Hid _:=H0.out λj hj=>hz.out j (by omega)
   go_wp2_with fail;go_ret;exact⟨ba HR.out.symm,rfl⟩
theorem Lw(t:ByteArray)(W:World)(g:Nat)(hs:t.size<=Il)(hg:W.heap[g]?=AI (AT #[Y t] 9 (0,0))) :
 aF 205 #[J (AI ⟨g,0,be⟩) 1 1] W λe w'=>e=By (Ia (oL t))/\w'=W:=by
 have h:=Ao [t] g 1 W (λj hj=>by
  rw[ae hg]
  have:j=0:=by simp at hj;omega
  subst this;rfl) (λj=>by
  match j with
  |0=>exact hs
  |_+1=>simp[Ip]) (by simp)
 simpa using h
end Go.Proofs.YtfidhgjmifendaaGreatDoor
namespace Go.Proofs.YtfidhgjmifendaaGreatDoor
namespace Sv
open Go.RowKit
theorem N9(t:ByteArray)(W:World)(g:Nat)(hs:t.size<=Il)(hg:W.heap[g]?=AI (AT #[Y t] 9 (0,0))) :
 Calls AS 205 #[J (AI ⟨g,0,be⟩) 1 1] W λe w'=>e=By (Ia (lO t))/\w'=W:=Lw t W g hs hg
def FY(m:aT):Bool:=[m.node,m.bu,m.name].all bb
theorem aT.aaE(m:aT):m.e=if FY m=true then(if lO m.tag=true then(if within m.addr 0 4294967295=true then(if within m.port 0 65535=true then(if within m.version 1 1000000=true then 0 else 3) else 3) else 3) else 1) else 1:=by
 unfold aT.e FY;simp only[List.all_cons,List.all_nil,Bool.and_true];cases bb m.node<;>cases bb m.bu<;>cases bb m.name<;>cases lO m.tag<;>cases within m.addr 0 4294967295<;>cases within m.port 0 65535<;>cases within m.version 1 1000000<;>rfl
theorem Ap(m:aT)(hm:m.ok)(W:World)(g:Nat)(hg:W.heap[g]?=AI (AT #[Y m.node,Y m.bu,Y m.name] 9 (0,0))) :
 Calls AS 34 #[J (AI ⟨g,0,be⟩) 3 3] W λe w'=>e=By (Ia (FY m))/\w'=W:=by
 refine ou [m.node,m.bu,m.name] g 3 W (λj hj=>?_) (λj=>?_) (by simp)
 .rw[ae hg]
  have:j=0\/j=1\/j=2:=by simp at hj;omega
  rcases this with rfl|rfl|rfl<;>rfl
 .obtain⟨h1,h2,h3,h4⟩:=hm
  match j with
  |0=>exact h1
  |1=>exact h2
  |2=>exact h3
  |_+3=>simp[Ip]
theorem fO(m:aT)(w:World)(hm:m.ok) :
 Calls AS 155 #[Ij #[Y m.node,Y m.bu,Y m.name,Y m.tag,U O m.addr,U O m.port,Ia m.aj,U O m.version,Ia m.gone]] w λe w'=>e=By (U O m.e)/\Below w.heap.size w w':=by
 have hs:m.tag.size<=Il:=hm.2.2.2;have hB:Hid (Below w.heap.size w ((w.alloc (AT #[Y m.node,Y m.bu,Y m.name,Y m.tag,U O m.addr,U O m.port,Ia m.aj,U O m.version,Ia m.gone] 46)).alloc (AT #[Y m.node,Y m.bu,Y m.name] 9))):=((Ib _ _).alloc (Ic _) _).alloc (by simp) _;have hg:((w.alloc (AT #[Y m.node,Y m.bu,Y m.name,Y m.tag,U O m.addr,U O m.port,Ia m.aj,U O m.version,Ia m.gone] 46)).alloc (AT #[Y m.node,Y m.bu,Y m.name] 9)).heap[w.heap.size+1]?=AI (AT #[Y m.node,Y m.bu,Y m.name] 9 (0,0)):=by
  have h:=Ih (w.alloc (AT #[Y m.node,Y m.bu,Y m.name,Y m.tag,U O m.addr,U O m.port,Ia m.aj,U O m.version,Ia m.gone] 46)) (AT #[Y m.node,Y m.bu,Y m.name] 9);simpa using h
 have HL:Hid (Calls AS 34 #[J (AI ⟨w.heap.size+1,0,be⟩) 3 3] ((w.alloc (AT #[Y m.node,Y m.bu,Y m.name,Y m.tag,U O m.addr,U O m.port,Ia m.aj,U O m.version,Ia m.gone] 46)).alloc (AT #[Y m.node,Y m.bu,Y m.name] 9)) λe w'=>e=By (Ia (FY m))/\w'=(w.alloc (AT #[Y m.node,Y m.bu,Y m.name,Y m.tag,U O m.addr,U O m.port,Ia m.aj,U O m.version,Ia m.gone] 46)).alloc (AT #[Y m.node,Y m.bu,Y m.name] 9)):=Ap m hm _ _ hg;clear hg;have hB3:Hid (Below w.heap.size w (((w.alloc (AT #[Y m.node,Y m.bu,Y m.name,Y m.tag,U O m.addr,U O m.port,Ia m.aj,U O m.version,Ia m.gone] 46)).alloc (AT #[Y m.node,Y m.bu,Y m.name] 9)).alloc (AT #[Y m.tag] 9))):=hB.out.alloc (by simp;omega) _;have ji:(((w.alloc (AT #[Y m.node,Y m.bu,Y m.name,Y m.tag,U O m.addr,U O m.port,Ia m.aj,U O m.version,Ia m.gone] 46)).alloc (AT #[Y m.node,Y m.bu,Y m.name] 9)).alloc (AT #[Y m.tag] 9)).heap[w.heap.size+2]?=AI (AT #[Y m.tag] 9 (0,0)):=by
  have h:=Ih ((w.alloc (AT #[Y m.node,Y m.bu,Y m.name,Y m.tag,U O m.addr,U O m.port,Ia m.aj,U O m.version,Ia m.gone] 46)).alloc (AT #[Y m.node,Y m.bu,Y m.name] 9)) (AT #[Y m.tag] 9);simpa using h
 have HT:Hid (Calls AS 205 #[J (AI ⟨w.heap.size+2,0,be⟩) 1 1] (((w.alloc (AT #[Y m.node,Y m.bu,Y m.name,Y m.tag,U O m.addr,U O m.port,Ia m.aj,U O m.version,Ia m.gone] 46)).alloc (AT #[Y m.node,Y m.bu,Y m.name] 9)).alloc (AT #[Y m.tag] 9)) λe w'=>e=By (Ia (lO m.tag))/\w'=(((w.alloc (AT #[Y m.node,Y m.bu,Y m.name,Y m.tag,U O m.addr,U O m.port,Ia m.aj,U O m.version,Ia m.gone] 46)).alloc (AT #[Y m.node,Y m.bu,Y m.name] 9)).alloc (AT #[Y m.tag] 9))):=N9 m.tag _ _ hs ji;clear ji;have HD:Hid (m.e=if FY m=true then(if lO m.tag=true then(if within m.addr 0 4294967295=true then(if within m.port 0 65535=true then(if within m.version 1 1000000=true then 0 else 3) else 3) else 3) else 1) else 1):=m.aaE;clear hm;rcases h1:FY m with _|_
 .go_enter Tryz.func155,Tryz.ntmps155
  go_wp2_with (go_at_call 34;refine HL.out.mono ?_;rintro e w' ⟨rfl,rfl⟩;rw[h1]);go_ret;exact⟨ai (by rw[HD.out];simp[h1]),hB.out⟩
 .rcases h2:lO m.tag with _|_
  .go_enter Tryz.func155,Tryz.ntmps155
   go_wp2_with (first|(go_at_call 34;refine HL.out.mono ?_;rintro e w' ⟨rfl,rfl⟩;rw[h1])|(go_at_call 205;refine HT.out.mono ?_;rintro e w' ⟨rfl,rfl⟩;rw[h2]));go_ret;exact⟨ai (by rw[HD.out];simp[h1,h2]),hB3.out⟩
  .rcases h3:within m.addr 0 4294967295 with _|_
   .go_enter Tryz.func155,Tryz.ntmps155
    go_wp2_with (first|(go_at_call 34;refine HL.out.mono ?_;rintro e w' ⟨rfl,rfl⟩;rw[h1])|(go_at_call 205;refine HT.out.mono ?_;rintro e w' ⟨rfl,rfl⟩;rw[h2])|(go_at_call 35;refine(eF _ _).mono ?_;rintro e w' ⟨rfl,rfl⟩;rw[h3]));go_ret;exact⟨ai (by rw[HD.out];simp[h1,h2,h3]),hB3.out⟩
   .rcases h4:within m.port 0 65535 with _|_
    .go_enter Tryz.func155,Tryz.ntmps155
     go_wp2_with (first|(go_at_call 34;refine HL.out.mono ?_;rintro e w' ⟨rfl,rfl⟩;rw[h1])|(go_at_call 205;refine HT.out.mono ?_;rintro e w' ⟨rfl,rfl⟩;rw[h2])|(go_at_call 35;refine(eF _ _).mono ?_;rintro e w' ⟨rfl,rfl⟩;rw[h3])|(go_at_call 54;refine(cy _ _ _ _).mono ?_;rintro e w' ⟨rfl,rfl⟩;rw[h4]));go_ret;exact⟨ai (by rw[HD.out];simp[h1,h2,h3,h4]),hB3.out⟩
    .rcases h5:within m.version 1 1000000 with _|_
     all_goals
      go_enter Tryz.func155,Tryz.ntmps155;go_wp2_with (first|(go_at_call 34;refine HL.out.mono ?_;rintro e w' ⟨rfl,rfl⟩;rw[h1])|(go_at_call 205;refine HT.out.mono ?_;rintro e w' ⟨rfl,rfl⟩;rw[h2])|(go_at_call 35;refine(eF _ _).mono ?_;rintro e w' ⟨rfl,rfl⟩;rw[h3])|(go_at_call 54;refine(cy _ _ _ _).mono ?_;rintro e w' ⟨rfl,rfl⟩;first|rw[h4]|rw[h5]));go_ret;exact⟨ai (by rw[HD.out];simp[h1,h2,h3,h4,h5]),hB3.out⟩
theorem iE(ms:List aT)(b off cap:Nat)(w:World)(hr:Row w b off ms)(hb:b<w.heap.size)(hn:ms.length<=40)(hs:∀j,(ms.getD j dm).ok) :
 Calls AS 99 #[J (AI ⟨b,off,be⟩) ms.length cap] w λe w'=>e=By (U O (bj ms))/\Below w.heap.size w w':=by
 have HR:Hid (Row w b off ms):=hr;have HE:Hid (∀k,k<ms.length->(∀j,j<k->(ms.getD j dm).e=0)->(ms.getD k dm).e≠0->bj ms=(ms.getD k dm).e):=λk h1 h2 h3=>tD ms k hn h1 h2 h3;have H4:Hid ((∀j,j<ms.length->(ms.getD j dm).e=0)->bj ms=if aL ms=true then 0 else 4):=λh1=>ry ms hn h1;have KB:Hid (∀w',Below w.heap.size w w'->Calls _ _ _ _ _):=λw' AD=>jF ms b off cap w' (hr.later AD hb) (IN hb AD.size) hn;clear hr;generalize hN:ms.length=n at *;have HN:Hid _:=hN;clear hN;have HS:Hid _:=hs;clear hs;generalize hC:bj ms=res at *;have HC:Hid _:=hC;clear hC;generalize KC:aL ms=rb at *;have LQ:Hid _:=KC;clear KC;go_enter Tryz.func99,Tryz.ntmps99;go_wp2_with fail;go_loopw [11] (λi w'=>∃k:Nat,k<=n/\i=U O k/\Below w.heap.size w w'/\Hid (∀j,j<k->(ms.getD j dm).e=0)) (λi _=>n-(intOf i).toNat)
 case atStart=>exact⟨0,II _,rfl,Ib _ _,λj h=>absurd h (Jq _)⟩
 case round=>
  obtain⟨k,hk,rfl,aN,hz⟩:=hrel;obtain⟨eG,nz⟩:=cz aN;have cF:=aN.size;by_cases aW:k<n
  .obtain⟨c0,c1,c2,c3,c4,c5,c6,c7,c8⟩:=HR.out k (by rw[HN.out];exact aW)
   have Dn:Hid _:=HS.out k;have HK:Hid ((ms.getD k dm).e≠0->res=(ms.getD k dm).e):=λh=>HE.out k aW hz.out h;have HZ:Hid ((ms.getD k dm).e=0->∀j,j<k+1->(ms.getD j dm).e=0):=λh j hj=>by
    rcases Jc.1 hj with h2|rfl
    .exact hz.out j h2
    .exact h
   generalize ms.getD k dm=m at *;have HO:Hid (∀w,Calls _ _ _ _ _):=λw=>fO m w Dn.out;generalize m.e=me at *;rcases he:decide (me=0) with _|_
   .have kJ:(me !=0)=true:=by simpa using he
    clear he;go_wp2_with (go_at_call 155;refine(HO.out _).mono ?_;rintro e w' ⟨rfl,aJ⟩);go_ret;have aM:me≠0:=by simpa using kJ
    have sL:=HK.out aM;exact⟨ai sL.symm,(aN.alloc cF _).trans (aJ.mono (by simp;omega))⟩
   .have kJ:(me !=0)=false:=by simpa using he
    clear he;go_wp2_with (go_at_call 155;refine(HO.out _).mono ?_;rintro e w' ⟨rfl,aJ⟩);go_roundw
    case rel=>
     have PW:me=0:=by simpa using kJ
     exact⟨k+1,by omega,by go_num,(aN.alloc cF _).trans (aJ.mono (by simp;omega)),HZ.out PW⟩
    case measure=>simp[intOf];omega
  .have ku:Hid (∀j,j<n->(ms.getD j dm).e=0):=λj hj=>hz.out j (by omega)
   have oI:Hid _:=H4.out ku.out;clear hz ku H4 HE HC LQ;cases rb
   .go_wp2_with (go_at_call 156;refine(KB.out _ aN).mono ?_;rintro e w' ⟨rfl,aJ⟩)
    go_ret;exact⟨ai (by rw[oI.out];rfl),aN.trans (aJ.mono cF)⟩
   .go_wp2_with (go_at_call 156;refine(KB.out _ aN).mono ?_;rintro e w' ⟨rfl,aJ⟩)
    go_ret;exact⟨ai (by rw[oI.out];rfl),aN.trans (aJ.mono cF)⟩
theorem gl(a:Option Addr)(n cap:Nat)(w:World)(hn:40<n) :
 Calls AS 99 #[J a n cap] w λe w'=>e=By (U O 2)/\w'=w:=by
 go_enter Tryz.func99,Tryz.ntmps99;go_wp2_with fail;go_ret;exact⟨rfl,rfl⟩
theorem gm(a:Option Addr)(cap:Nat)(w:World) :
 Calls AS 99 #[J a 0 cap] w λe w'=>e=By (U O 0)/\w'=w:=by
 go_enter Tryz.func99,Tryz.ntmps99;go_wp2_with fail;go_loop [11] (λi=>i=U O 0) (λ_=>0)
 case atStart=>rfl
 case round=>
  subst hrel;go_wp2_with (go_at_call 156;refine(gj _ _ _ _).mono ?_;rintro e w' ⟨rfl,rfl⟩);go_ret;exact⟨rfl,rfl⟩
theorem bo(ms:List aT)(v:Value)(w:World)(h:Sl w v ms) :
 Calls AS 99 #[v] w λe w'=>e=By (U O (bj ms))/\Below w.heap.size w w':=by
 obtain⟨a,cap,rfl,hs,h⟩:=h;by_cases hn:40<ms.length
 .refine(gl a ms.length cap w hn).mono ?_
  rintro e w' ⟨rfl,rfl⟩;exact⟨ai (by rw[bj,if_pos hn]),Ib _ _⟩
 .rcases h with rfl|⟨b,off,rfl,hb,hr⟩
  .refine(gm a cap w).mono ?_
   rintro e w' ⟨rfl,rfl⟩;exact⟨rfl,Ib _ _⟩
  .exact iE ms b off cap w hr hb (by omega) hs
theorem dL(a b:List aT)(va vb:Value)(pb cap:Nat)(w:World)(ha:Sl w va a)(hb:Sl w vb b)(hpb:pb<w.heap.size)(hc0:w.cell? ⟨pb,0,be⟩=AI va)(hc1:w.cell? ⟨pb,1,be⟩=AI vb) :
 Calls AS 170 #[J (AI ⟨pb,0,be⟩) 2 cap] w λe w'=>e=By (U O (aO a b))/\Below w.heap.size w w':=by
 have HA:Hid (Sl w va a):=ha;have HB:Hid (Sl w vb b):=hb;clear ha hb;go_enter Tryz.func170,Tryz.ntmps170;go_wp2_with fail;go_loopw [8] (λi w'=>∃k:Nat,k<=2/\i=U O k/\Below w.heap.size w w'/\Hid (0<k->bj a=0)/\Hid (1<k->bj b=0)) (λi _=>2-(intOf i).toNat)
 case atStart=>exact⟨0,by omega,rfl,Ib _ _,λh=>by omega,λh=>by omega⟩
 case round=>
  obtain⟨k,hk,rfl,aN,dh,cZ⟩:=hrel;obtain⟨eG,nz⟩:=cz aN;have cF:=aN.size;have Gd:Hid (Sl wr va a):=HA.out.below aN;have Ge:Hid (Sl wr vb b):=HB.out.below aN;have fZ:k=0\/k=1\/k=2:=by omega
  rcases fZ with rfl|rfl|rfl
  .rcases he:decide (bj a=0) with _|_
   .have kJ:(bj a !=0)=true:=by simpa using he
    clear he;go_wp2_with (go_at_call 99;refine(bo a _ _ Gd.out).mono ?_;rintro e w' ⟨rfl,aJ⟩);go_ret;exact⟨ai (by have h0:bj a≠0:=(by simpa using kJ);rw[aO,if_neg h0]),aN.trans (aJ.mono cF)⟩
   .have kJ:(bj a !=0)=false:=by simpa using he
    clear he;go_wp2_with (go_at_call 99;refine(bo a _ _ Gd.out).mono ?_;rintro e w' ⟨rfl,aJ⟩);go_roundw
    case rel=>exact⟨1,by omega,by go_num,aN.trans (aJ.mono cF),λ_=>(by simpa using kJ),λh=>by omega⟩
    case measure=>simp[intOf]
  .have h0:Hid _:=dh.out (by omega)
   rcases he:decide (bj b=0) with _|_
   .have kJ:(bj b !=0)=true:=by simpa using he
    clear he;go_wp2_with (go_at_call 99;refine(bo b _ _ Ge.out).mono ?_;rintro e w' ⟨rfl,aJ⟩);go_ret;exact⟨ai (by rw[aO,if_pos h0.out]),aN.trans (aJ.mono cF)⟩
   .have kJ:(bj b !=0)=false:=by simpa using he
    clear he;go_wp2_with (go_at_call 99;refine(bo b _ _ Ge.out).mono ?_;rintro e w' ⟨rfl,aJ⟩);go_roundw
    case rel=>exact⟨2,by omega,by go_num,aN.trans (aJ.mono cF),λ_=>h0.out,λ_=>(by simpa using kJ)⟩
    case measure=>simp[intOf]
  .go_wp2_with fail
   go_ret;exact⟨ai (by rw[aO,if_pos (dh.out (by omega)),cZ.out (by omega)]),aN⟩
theorem mL(a b:List aT)(va vb:Value)(pb cap:Nat)(w:World)(ha:Sl w va a)(hb:Sl w vb b)(hpb:pb<w.heap.size)(hc0:w.cell? ⟨pb,0,be⟩=AI va)(hc1:w.cell? ⟨pb,1,be⟩=AI vb)(aM:aO a b≠0) :
 Calls AS 109 #[J (AI ⟨pb,0,be⟩) 2 cap] w λe w'=>e=By (Ik #[J be 0 0,U O (aE a b)])/\Below w.heap.size w w':=by
 have he:(aO a b !=0)=true:=by simpa using aM
 have HE:Hid (aE a b=aO a b):=if_neg aM;have pS:=dL a b va vb pb cap w ha hb hpb hc0 hc1;have HC:Hid (Calls _ _ _ _ _):=pS;clear pS ha hb aM;go_enter Tryz.func109,Tryz.ntmps109;go_wp2_with (go_at_call 170;refine HC.out.mono ?_;rintro e w' ⟨rfl,aJ⟩);go_ret2;exact⟨by rw[HE.out];rfl,aJ⟩
theorem kR(a b:List aT)(va vb:Value)(pb cap:Nat)(w:World)(ha:Sl w va a)(hb:Sl w vb b)(hpb:pb<w.heap.size)(hc0:w.cell? ⟨pb,0,be⟩=AI va)(hc1:w.cell? ⟨pb,1,be⟩=AI vb)(h0:aO a b=0) :
 Calls AS 109 #[J (AI ⟨pb,0,be⟩) 2 cap] w λe w'=>∃v',e=By (Ik #[v',U O (aE a b)])/\Below w.heap.size w w' /\
  (40<(av a b).length->v'=J be 0 0)/\((av a b).length<=40->Own w.heap.size w' v' (av a b)):=by
 have he:(aO a b !=0)=false:=by simpa using h0
 have Dp:bj a=0:=by unfold aO at h0;split at h0<;>assumption
 have PX:bj b=0:=by unfold aO at h0;rw[if_pos Dp] at h0;exact h0
 have za:=af Dp;have zb:=af PX;have HE:Hid (aE a b=if 40<(av a b).length then 2 else 0):=if_pos h0;have HC:Hid (Calls _ _ _ _ _):=dL a b va vb pb cap w ha hb hpb hc0 hc1;have HJ:Hid (∀w1,Below w.heap.size w w1->Calls AS 171 #[IQ (.func 157) #[] #[],IQ (.func 172) #[] #[],J (AI ⟨pb,0,be⟩) 2 cap] w1 λe w'=>∃v',e=By v'/\Own w1.heap.size w' v' (av a b)/\Below w1.heap.size w1 w'):=λw1 aB=>
  iu a b va vb pb cap w1 (ha.below aB) (hb.below aB) (IN hpb aB.size) ((cz aB).1 pb 0 hpb |>.trans hc0) ((cz aB).1 pb 1 hpb |>.trans hc1) za.1 zb.1 za.2.1
 have Ef:(av a b).length<=80:=by have h1:=di b a;have h2:=za.1;have h3:=zb.1;omega
 clear h0 Dp PX za zb ha hb hc0 hc1;generalize av a b=jl at *;generalize GL:jl.length=n at *;have WH:Hid _:=GL;clear GL;go_enter Tryz.func109,Tryz.ntmps109;go_wp2_with (go_at_call 170;refine HC.out.mono ?_;rintro e w1 ⟨rfl,aB⟩);refine(HJ.out w1 aB).mono ?_;rintro e w2 ⟨v',rfl,ho,aJ⟩;have zK:∃p c,v'=J p n c:=by
  have hn:=WH.out;rcases ho.2 with⟨h,h0⟩|⟨g,c,cur,h,_⟩
  .exact⟨be,0,by rw[h];congr 1;omega⟩
  .exact⟨_,c,by rw[h,hn]⟩
 obtain⟨p,c,rfl⟩:=zK;have PY:Hid _:=aB.trans (aJ.mono aB.size);have dY:Hid (Own _ _ _ _):=ho.mono aB.size;clear ho aB aJ HC HJ;by_cases aW:40<n
 .go_wp2_with fail
  go_ret2;refine⟨_,by rw[HE.out,if_pos aW];rfl,PY.out,λ_=>rfl,λh=>by omega⟩
 .go_wp2_with fail
  go_ret2;refine⟨J p n c,by rw[HE.out,if_neg aW];rfl,PY.out,λh=>by omega,λ_=>dY.out⟩
end Sv
namespace Gw
open Go.RowKit
theorem lP{a b:List bK}(kL:a.length<=6)(kK:b.length<=6)(k:Nat):(dF a b k).length<=12:=by
 unfold dF;split
 .simp
 .split
  .omega
  .have:=di b a;omega
structure Bn(w:World)(pb:Nat)(a b:List bK)(k:Nat)(l:List bK)(pk:Option Addr)(ck:Nat):Prop where
 cell:w.cell? ⟨pb,k,be⟩=AI (J pk l.length ck)
 row:l=[]\/∃b off,pk=AI ⟨b,off,be⟩/\b<w.heap.size/\Row w b off l
 Hv:∀m∈l,(m).ok
 len:l.length<=6
 Bo:(dF a b k).length<=6
 tr:bn (dF a b k)
 Bp:∀m∈dF a b k,(m).ok
 step:dF a b (k+1)=av (dF a b k) l
theorem ox{a b:List bK}{va vb:Value}{pb:Nat}{w:World}(ha:Sl w va a)(hb:Sl w vb b)(hc0:w.cell? ⟨pb,0,be⟩=AI va)(hc1:w.cell? ⟨pb,1,be⟩=AI vb)(kL:a.length<=6)(kK:b.length<=6)(ra:bn a)(k:Nat)(hk:k<2) :
 ∃l pk ck,Bn w pb a b k l pk ck:=by
 obtain⟨pa,ca,rfl,Hw,ha⟩:=ha;obtain⟨pv,cb,rfl,R6,hb⟩:=hb;have fZ:k=0\/k=1:=by omega
 rcases fZ with rfl|rfl
 .exact⟨a,pa,ca,hc0,ha,dw Hw,kL,by simp[dF],by simp[dF],by simp[dF],(iq a ra).symm⟩
 .exact⟨b,pv,cb,hc1,hb,dw R6,kK,kL,ra,dw Hw,rfl⟩
theorem iu(a b:List bK)(va vb:Value)(pb cap:Nat)(w:World)(ha:Sl w va a)(hb:Sl w vb b)(hpb:pb<w.heap.size)(hc0:w.cell? ⟨pb,0,be⟩=AI va)(hc1:w.cell? ⟨pb,1,be⟩=AI vb)(kL:a.length<=6)(kK:b.length<=6)(ra:bn a) :
 Calls AS 174 #[IQ (.func 160) #[] #[],IQ (.func 175) #[] #[],J (AI ⟨pb,0,be⟩) 2 cap] w λe w'=>∃v',e=By v'/\Own w.heap.size w' v' (av a b)/\Below w.heap.size w w':=by
 have HK:Hid (∀k,k<2->∃l pk ck,Bn w pb a b k l pk ck):=λk hk=>ox ha hb hc0 hc1 kL kK ra k hk;have uK:Hid (∀k,(dF a b k).length<=12):=lP kL kK;clear ha hb hc0 hc1 kL kK ra;go_enter Tryz.func174,Tryz.ntmps174;go_wp2_with fail;go_loopw [7,16] (λkn i w'=>∃k:Nat,k<=2/\i=U O k/\Below w.heap.size w w'/\Hid (Own w.heap.size w' kn (dF a b k))) (λ_ i _=>2-(intOf i).toNat)
 case atStart=>exact⟨0,by omega,rfl,Ib _ _,bY _ _⟩
 case round=>
  obtain⟨k,hk,rfl,aN,HO⟩:=hrel;obtain⟨eG,nz⟩:=cz aN;have cF:=aN.size;by_cases jz:k<2
  .obtain⟨l,pk,ck,oy⟩:=HK.out k jz
   have oz:Hid (Bn w pb a b k l pk ck):=oy;have fM:=oy.cell;clear oy;generalize ri:l.length=nl at *;have jZ:Hid (l.length=nl):=ri;clear ri;have Hx:nl<=6:=by have:=oz.out.len;have:=jZ.out;omega
   have R7:(k:Int)<2:=by omega
   go_wp2_with fail;go_loopw [7,22] (λkn j w'=>∃q:Nat,q<=nl/\j=U O q/\Below w.heap.size w w'/\Hid (Own w.heap.size w' kn (av (dF a b k) (l.take q)))) (λ_ j _=>nl-(intOf j).toNat)
   case atStart=>exact⟨0,II _,rfl,aN,HO⟩
   case round=>
    clear eG nz cF aN HO fM;obtain⟨q,hq,rfl,aN,HO⟩:=hrel;obtain⟨eG,nz⟩:=cz aN;have cF:=aN.size;by_cases aW:q<nl
    .obtain⟨b2,off,Bq,Pu,cQ⟩:∃xk off,pk=AI ⟨xk,off,be⟩/\xk<w.heap.size/\Row w xk off l:=by
      rcases oz.out.row with h|h
      .have:=jZ.out;rw[h] at this;simp at this;omega
      .exact h
     subst Bq;obtain⟨c0,c1,c2⟩:=cQ q (by rw[jZ.out];exact aW);clear cQ;have HJ:Hid (av (dF a b k) (l.take (q+1))=aP (av (dF a b k) (l.take q)) (l.getD q dm)):=gd (dF a b k) l q (by rw[jZ.out];exact aW);have HR:Hid (bn (av (dF a b k) (l.take q))):=dE _ _ oz.out.tr;have Mr:Hid (∀j,((av (dF a b k) (l.take q)).getD j dm).ok):=cB (iI _ _ oz.out.Bp (λx hx=>oz.out.Hv x (Jf hx)));have HL:Hid ((av (dF a b k) (l.take q)).length<=12):=by
      have h1:=di (l.take q) (dF a b k);have h2:(l.take q).length<=q:=JM _ _;have h3:=oz.out.Bo;show(av (dF a b k) (l.take q)).length<=12;omega
     generalize l.getD q dm=m at *;generalize av (dF a b k) (l.take q)=known at *;have Ef:known.length<=12:=HL.out;obtain⟨W1,cM,aB,fg,cK⟩:=bW wr #[Y m.aD,U O m.addr,U O m.version] 77;have lC:Hid (Own w.heap.size W1 u7 known):=HO.out.below aB;have HF:Hid (Calls AS 215 #[u7,Ij #[Y m.aD,U O m.addr,U O m.version],IQ (.func 160) #[] #[]] W1 λe w'=>∃(p:Nat) (f:Bool),e=By (Ik #[U O p,Ia f])/\Below W1.heap.size W1 w'/\At known m p f):=
      ff known u7 m W1 (lC.out.sl Mr.out) HL.out HR.out
     have aV:Hid (Below w.heap.size w W1):=aN.trans (aB.mono cF);have HT:Hid (As W1 wr.heap.size 0 m):=⟨ae cK 0,ae cK 1,ae cK 2⟩;have nZ:Hid _:=cM;have uR:w.heap.size<=W1.heap.size:=by omega
     clear cK aB HO HL HR cM;go_wp2_with fail;rw[<- nZ.out];refine HF.out.mono ?_;rintro e w2 ⟨p,f,rfl,aJ,cv⟩;have fS:Hid _:=cv;have R8:=cv.le;have R9:=aJ.size;have gX:Hid (Own _ _ _ _):=lC.out.below aJ;have bp:Hid _:=aV.out.trans (aJ.mono uR);have xl:Hid (As w2 wr.heap.size 0 m):=HT.out.eq (λo=>aJ.cell (p:=⟨wr.heap.size,o,be⟩) (by show wr.heap.size<W1.heap.size;omega));obtain⟨t0,t1,t2⟩:w2.cell? ⟨wr.heap.size,0,be⟩=AI (Y m.aD)/\w2.cell? ⟨wr.heap.size,1,be⟩=AI (U O m.addr)/\w2.cell? ⟨wr.heap.size,2,be⟩=AI (U O m.version):=xl.out;have gY:w.heap.size<=w2.heap.size:=by omega
     have Br:wr.heap.size<w2.heap.size:=by omega
     clear cv HF eG nz c0 c1 c2 aJ lC aV HT;cases f
     .have aM:Hid (u7.ownBlock≠AI w2.heap.size):=λe=>by have:=gX.out.lt _ e;omega
      have dY:Hid (Own w.heap.size (w2.alloc (AT #[Y m.aD,U O m.addr,U O m.version] 77)) u7 known):=gX.out.below ((Ib _ _).alloc (Ic _) _);have pt:Hid ((w2.alloc (AT #[Y m.aD,U O m.addr,U O m.version] 77)).heap[w2.heap.size]?=AI (AT m.cs.toArray 77 (0,0))):=Ih w2 _;go_wp2_with (go_at_call 216;refine(fj w.heap.size p w2.heap.size u7 known m _ dY.out fS.out.le (by omega) (by simp;omega) pt.out aM.out).mono ?_;rintro e w4 ⟨v',rfl,g1,g2⟩);go_roundw
      case rel=>
       have jf:∃oA:Nat,oA<=nl/\U O ((q:Int)+1)=U O oA/\Below w.heap.size w w4/\Hid (Own w.heap.size w4 v' (av (dF a b k) (l.take oA))):=⟨q+1,by omega,by go_num,fc (bp.out.alloc gY _) dY.out g2 (by simp;omega),by rw[HJ.out,dd known m p false fS.out];exact g1⟩;first|exact jf|((repeat apply Ql);exact⟨jf,rfl⟩)
      case measure=>simp[intOf];omega
     .have hp:p<known.length:=(fS.out.is.1 rfl).1
      obtain⟨g,c,hu⟩:=jJ gX.out p hp;subst hu;have F:=(ez gX.out p hp).re;have dn:=gX.out.lt g rfl;have Mw:g<w2.heap.size:=dn.2;generalize hm:known.getD p dm=m2 at *;have Hm:Hid _:=hm;clear hm;have hN:∀d os,Calls AS 175 #[Ij #[Y m.aD,U O m.addr,U O m.version],Ij #[Y m2.aD,U O m2.addr,U O m2.version]] (Io (Iz w2 d) os) λe gD=>e=By (Ia (bP m m2))/\∃p:JW,gD=Io (Iz w2 p.d) p.os:=λd os=>I3 (gf m m2 _);have G:=xl.out.re;simp only[As,IC] at F G;have rf:∀o,w2.frozen? ⟨g,o,be⟩=false:=λo=>I7 gX.out o;have TF:Hid _:=rf;clear rf t0 t1 t2;generalize Hy:bP m m2=nw at *;have Hz:Hid _:=Hy;clear Hy;go_wp2_with fail;refine IJ (by kernel_rfl) (by kernel_rfl) ?_;repeat(quiet_step (exact hN _ _))
      refine bN λdq kj ed=>?_;clear hN F G;cases nw
      .go_wp2_with fail
       go_roundw
       case rel=>
        have jf:∃oA:Nat,oA<=nl/\U O ((q:Int)+1)=U O oA/\Below w.heap.size w (Io (Iz w2 dq) kj)/\Hid (Own w.heap.size (Io (Iz w2 dq) kj) (J (AI ⟨g,0,be⟩) known.length c) (av (dF a b k) (l.take oA))):=⟨q+1,by omega,by go_num,bp.out.trans (ed.out.mono gY),by rw[HJ.out,dd known m p true fS.out,if_pos rfl,Hm.out,if_neg (λh=>Bool.false_ne_true (Hz.out.symm.trans h))];exact gX.out.below ed.out⟩;first|exact jf|((repeat apply Ql);exact⟨jf,rfl⟩)
       case measure=>simp[intOf];omega
      .generalize Io (Iz w2 dq) kj=w3 at *
       have dY:Hid (Own _ _ _ _):=gX.out.below ed.out;obtain⟨c0,c1,c2⟩:=ez dY.out p hp;rw[Hm.out] at c0 c1 c2;have ji:=(dY.out.lt g rfl).2;have rf:∀o,w3.frozen? ⟨g,o,be⟩=false:=λo=>I7 dY.out o;obtain⟨s0,s1,s2⟩:w3.cell? ⟨wr.heap.size,0,be⟩=AI (Y m.aD)/\w3.cell? ⟨wr.heap.size,1,be⟩=AI (U O m.addr)/\w3.cell? ⟨wr.heap.size,2,be⟩=AI (U O m.version):=xl.out.eq (λo=>ed.out.cell (p:=⟨wr.heap.size,o,be⟩) Br);go_wp2_with fail;refine⟨⟨q+1,by omega,by go_num,?_,?_⟩,by simp[intOf];omega⟩
       .exact((((bp.out.trans (ed.out.mono gY)).setCell (p:=⟨g,p*3,be⟩) dn.1 (Y m.aD)).setCell (p:=⟨g,p*3+1,be⟩) dn.1 (U O m.addr)).setCell (p:=⟨g,p*3+2,be⟩) dn.1 (U O m.version))
       .rw[HJ.out,dd known m p true fS.out,if_pos rfl,Hm.out,if_pos Hz.out]
        exact lr dY.out hp m
    .have Eg:q=nl:=by omega
     subst Eg;have dY:Hid (Own w.heap.size wr u7 (dF a b (k+1))):=by
      have h:=HO.out;rw[Jl (by rw[jZ.out];exact Ic _)] at h;rw[oz.out.step];exact h
     go_wp2_with fail;go_roundw
     case rel=>exact⟨k+1,by omega,by go_num,aN,dY⟩
     case measure=>simp[intOf];omega
  .have jO:k=2:=by omega
   subst jO;go_wp2_with fail;go_ret;exact⟨_,rfl,HO.out,aN⟩
end Gw
namespace Gw
open Go.RowKit
theorem fO(m:bK)(w:World)(hm:m.ok) :
 Calls AS 158 #[Ij #[Y m.aD,U O m.addr,U O m.version]] w λe w'=>e=By (U O m.e)/\Below w.heap.size w w':=by
 have hs:m.aD.size<=Il:=hm;have hB:Hid (Below w.heap.size w (w.alloc (AT #[Y m.aD,U O m.addr,U O m.version] 77))):=(Ib _ _).alloc (Ic _) _;clear hm;rcases h1:bb m.aD with _|_
 .go_enter Tryz.func158,Tryz.ntmps158
  go_wp2_with (go_at_call 53;refine(bR _ _ hs).mono ?_;rintro e w' ⟨rfl,rfl⟩;rw[h1]);go_ret;exact⟨ai (by simp[bK.e,h1]),hB.out⟩
 .rcases h2:within m.addr 0 4294967295 with _|_
  .go_enter Tryz.func158,Tryz.ntmps158
   go_wp2_with (first|(go_at_call 53;refine(bR _ _ hs).mono ?_;rintro e w' ⟨rfl,rfl⟩;rw[h1])|(go_at_call 35;refine(eF _ _).mono ?_;rintro e w' ⟨rfl,rfl⟩;rw[h2]));go_ret;exact⟨ai (by simp[bK.e,h1,h2]),hB.out⟩
  .rcases h3:within m.version 1 1000000 with _|_
   all_goals
    go_enter Tryz.func158,Tryz.ntmps158;go_wp2_with (first|(go_at_call 53;refine(bR _ _ hs).mono ?_;rintro e w' ⟨rfl,rfl⟩;rw[h1])|(go_at_call 35;refine(eF _ _).mono ?_;rintro e w' ⟨rfl,rfl⟩;rw[h2])|(go_at_call 54;refine(cy _ _ _ _).mono ?_;rintro e w' ⟨rfl,rfl⟩;rw[h3]));go_ret;exact⟨ai (by simp[bK.e,h1,h2,h3]),hB.out⟩
theorem iE(ms:List bK)(b off cap:Nat)(w:World)(hr:Row w b off ms)(hb:b<w.heap.size)(hn:ms.length<=6)(hs:∀j,(ms.getD j dm).ok) :
 Calls AS 100 #[J (AI ⟨b,off,be⟩) ms.length cap] w λe w'=>e=By (U O (bj ms))/\Below w.heap.size w w':=by
 have HR:Hid (Row w b off ms):=hr;have HE:Hid (∀k,k<ms.length->(∀j,j<k->(ms.getD j dm).e=0)->(ms.getD k dm).e≠0->bj ms=(ms.getD k dm).e):=λk h1 h2 h3=>tD ms k hn h1 h2 h3;have H4:Hid ((∀j,j<ms.length->(ms.getD j dm).e=0)->bj ms=if aL ms=true then 0 else 4):=λh1=>ry ms hn h1;have KB:Hid (∀w',Below w.heap.size w w'->Calls _ _ _ _ _):=λw' AD=>jF ms b off cap w' (hr.later AD hb) (IN hb AD.size) hn;clear hr;generalize hN:ms.length=n at *;have HN:Hid _:=hN;clear hN;have HS:Hid _:=hs;clear hs;generalize hC:bj ms=res at *;have HC:Hid _:=hC;clear hC;generalize KC:aL ms=rb at *;have LQ:Hid _:=KC;clear KC;go_enter Tryz.func100,Tryz.ntmps100;go_wp2_with fail;go_loopw [11] (λi w'=>∃k:Nat,k<=n/\i=U O k/\Below w.heap.size w w'/\Hid (∀j,j<k->(ms.getD j dm).e=0)) (λi _=>n-(intOf i).toNat)
 case atStart=>exact⟨0,II _,rfl,Ib _ _,λj h=>absurd h (Jq _)⟩
 case round=>
  obtain⟨k,hk,rfl,aN,hz⟩:=hrel;obtain⟨eG,nz⟩:=cz aN;have cF:=aN.size;by_cases aW:k<n
  .obtain⟨c0,c1,c2⟩:=HR.out k (by rw[HN.out];exact aW)
   have Dn:Hid _:=HS.out k;have HK:Hid ((ms.getD k dm).e≠0->res=(ms.getD k dm).e):=λh=>HE.out k aW hz.out h;have HZ:Hid ((ms.getD k dm).e=0->∀j,j<k+1->(ms.getD j dm).e=0):=λh j hj=>by
    rcases Jc.1 hj with h2|rfl
    .exact hz.out j h2
    .exact h
   generalize ms.getD k dm=m at *;have HO:Hid (∀w,Calls _ _ _ _ _):=λw=>fO m w Dn.out;generalize m.e=me at *;rcases he:decide (me=0) with _|_
   .have kJ:(me !=0)=true:=by simpa using he
    clear he;go_wp2_with (go_at_call 158;refine(HO.out _).mono ?_;rintro e w' ⟨rfl,aJ⟩);go_ret;have aM:me≠0:=by simpa using kJ
    have sL:=HK.out aM;exact⟨ai sL.symm,(aN.alloc cF _).trans (aJ.mono (by simp;omega))⟩
   .have kJ:(me !=0)=false:=by simpa using he
    clear he;go_wp2_with (go_at_call 158;refine(HO.out _).mono ?_;rintro e w' ⟨rfl,aJ⟩);go_roundw
    case rel=>
     have PW:me=0:=by simpa using kJ
     exact⟨k+1,by omega,by go_num,(aN.alloc cF _).trans (aJ.mono (by simp;omega)),HZ.out PW⟩
    case measure=>simp[intOf];omega
  .have ku:Hid (∀j,j<n->(ms.getD j dm).e=0):=λj hj=>hz.out j (by omega)
   have oI:Hid _:=H4.out ku.out;clear hz ku H4 HE HC LQ;cases rb
   .go_wp2_with (go_at_call 159;refine(KB.out _ aN).mono ?_;rintro e w' ⟨rfl,aJ⟩)
    go_ret;exact⟨ai (by rw[oI.out];rfl),aN.trans (aJ.mono cF)⟩
   .go_wp2_with (go_at_call 159;refine(KB.out _ aN).mono ?_;rintro e w' ⟨rfl,aJ⟩)
    go_ret;exact⟨ai (by rw[oI.out];rfl),aN.trans (aJ.mono cF)⟩
theorem gl(a:Option Addr)(n cap:Nat)(w:World)(hn:6<n) :
 Calls AS 100 #[J a n cap] w λe w'=>e=By (U O 2)/\w'=w:=by
 go_enter Tryz.func100,Tryz.ntmps100;go_wp2_with fail;go_ret;exact⟨rfl,rfl⟩
theorem gm(a:Option Addr)(cap:Nat)(w:World) :
 Calls AS 100 #[J a 0 cap] w λe w'=>e=By (U O 0)/\w'=w:=by
 go_enter Tryz.func100,Tryz.ntmps100;go_wp2_with fail;go_loop [11] (λi=>i=U O 0) (λ_=>0)
 case atStart=>rfl
 case round=>
  subst hrel;go_wp2_with (go_at_call 159;refine(gj _ _ _ _).mono ?_;rintro e w' ⟨rfl,rfl⟩);go_ret;exact⟨rfl,rfl⟩
theorem bo(ms:List bK)(v:Value)(w:World)(h:Sl w v ms) :
 Calls AS 100 #[v] w λe w'=>e=By (U O (bj ms))/\Below w.heap.size w w':=by
 obtain⟨a,cap,rfl,hs,h⟩:=h;by_cases hn:6<ms.length
 .refine(gl a ms.length cap w hn).mono ?_
  rintro e w' ⟨rfl,rfl⟩;exact⟨ai (by rw[bj,if_pos hn]),Ib _ _⟩
 .rcases h with rfl|⟨b,off,rfl,hb,hr⟩
  .refine(gm a cap w).mono ?_
   rintro e w' ⟨rfl,rfl⟩;exact⟨rfl,Ib _ _⟩
  .exact iE ms b off cap w hr hb (by omega) hs
theorem dL(a b:List bK)(va vb:Value)(pb cap:Nat)(w:World)(ha:Sl w va a)(hb:Sl w vb b)(hpb:pb<w.heap.size)(hc0:w.cell? ⟨pb,0,be⟩=AI va)(hc1:w.cell? ⟨pb,1,be⟩=AI vb) :
 Calls AS 173 #[J (AI ⟨pb,0,be⟩) 2 cap] w λe w'=>e=By (U O (aO a b))/\Below w.heap.size w w':=by
 have HA:Hid (Sl w va a):=ha;have HB:Hid (Sl w vb b):=hb;clear ha hb;go_enter Tryz.func173,Tryz.ntmps173;go_wp2_with fail;go_loopw [8] (λi w'=>∃k:Nat,k<=2/\i=U O k/\Below w.heap.size w w'/\Hid (0<k->bj a=0)/\Hid (1<k->bj b=0)) (λi _=>2-(intOf i).toNat)
 case atStart=>exact⟨0,by omega,rfl,Ib _ _,λh=>by omega,λh=>by omega⟩
 case round=>
  obtain⟨k,hk,rfl,aN,dh,cZ⟩:=hrel;obtain⟨eG,nz⟩:=cz aN;have cF:=aN.size;have Gd:Hid (Sl wr va a):=HA.out.below aN;have Ge:Hid (Sl wr vb b):=HB.out.below aN;have fZ:k=0\/k=1\/k=2:=by omega
  rcases fZ with rfl|rfl|rfl
  .rcases he:decide (bj a=0) with _|_
   .have kJ:(bj a !=0)=true:=by simpa using he
    clear he;go_wp2_with (go_at_call 100;refine(bo a _ _ Gd.out).mono ?_;rintro e w' ⟨rfl,aJ⟩);go_ret;exact⟨ai (by have h0:bj a≠0:=(by simpa using kJ);rw[aO,if_neg h0]),aN.trans (aJ.mono cF)⟩
   .have kJ:(bj a !=0)=false:=by simpa using he
    clear he;go_wp2_with (go_at_call 100;refine(bo a _ _ Gd.out).mono ?_;rintro e w' ⟨rfl,aJ⟩);go_roundw
    case rel=>exact⟨1,by omega,by go_num,aN.trans (aJ.mono cF),λ_=>(by simpa using kJ),λh=>by omega⟩
    case measure=>simp[intOf]
  .have h0:Hid _:=dh.out (by omega)
   rcases he:decide (bj b=0) with _|_
   .have kJ:(bj b !=0)=true:=by simpa using he
    clear he;go_wp2_with (go_at_call 100;refine(bo b _ _ Ge.out).mono ?_;rintro e w' ⟨rfl,aJ⟩);go_ret;exact⟨ai (by rw[aO,if_pos h0.out]),aN.trans (aJ.mono cF)⟩
   .have kJ:(bj b !=0)=false:=by simpa using he
    clear he;go_wp2_with (go_at_call 100;refine(bo b _ _ Ge.out).mono ?_;rintro e w' ⟨rfl,aJ⟩);go_roundw
    case rel=>exact⟨2,by omega,by go_num,aN.trans (aJ.mono cF),λ_=>h0.out,λ_=>(by simpa using kJ)⟩
    case measure=>simp[intOf]
  .go_wp2_with fail
   go_ret;exact⟨ai (by rw[aO,if_pos (dh.out (by omega)),cZ.out (by omega)]),aN⟩
theorem mL(a b:List bK)(va vb:Value)(pb cap:Nat)(w:World)(ha:Sl w va a)(hb:Sl w vb b)(hpb:pb<w.heap.size)(hc0:w.cell? ⟨pb,0,be⟩=AI va)(hc1:w.cell? ⟨pb,1,be⟩=AI vb)(aM:aO a b≠0) :
 Calls AS 110 #[J (AI ⟨pb,0,be⟩) 2 cap] w λe w'=>e=By (Ik #[J be 0 0,U O (aE a b)])/\Below w.heap.size w w':=by
 have he:(aO a b !=0)=true:=by simpa using aM
 have HE:Hid (aE a b=aO a b):=if_neg aM;have pS:=dL a b va vb pb cap w ha hb hpb hc0 hc1;have HC:Hid (Calls _ _ _ _ _):=pS;clear pS ha hb aM;go_enter Tryz.func110,Tryz.ntmps110;go_wp2_with (go_at_call 173;refine HC.out.mono ?_;rintro e w' ⟨rfl,aJ⟩);go_ret2;exact⟨by rw[HE.out];rfl,aJ⟩
theorem kR(a b:List bK)(va vb:Value)(pb cap:Nat)(w:World)(ha:Sl w va a)(hb:Sl w vb b)(hpb:pb<w.heap.size)(hc0:w.cell? ⟨pb,0,be⟩=AI va)(hc1:w.cell? ⟨pb,1,be⟩=AI vb)(h0:aO a b=0) :
 Calls AS 110 #[J (AI ⟨pb,0,be⟩) 2 cap] w λe w'=>∃v',e=By (Ik #[v',U O (aE a b)])/\Below w.heap.size w w' /\
  (6<(av a b).length->v'=J be 0 0)/\((av a b).length<=6->Own w.heap.size w' v' (av a b)):=by
 have he:(aO a b !=0)=false:=by simpa using h0
 have Dp:bj a=0:=by unfold aO at h0;split at h0<;>assumption
 have PX:bj b=0:=by unfold aO at h0;rw[if_pos Dp] at h0;exact h0
 have za:=af Dp;have zb:=af PX;have HE:Hid (aE a b=if 6<(av a b).length then 2 else 0):=if_pos h0;have HC:Hid (Calls _ _ _ _ _):=dL a b va vb pb cap w ha hb hpb hc0 hc1;have HJ:Hid (∀w1,Below w.heap.size w w1->Calls AS 174 #[IQ (.func 160) #[] #[],IQ (.func 175) #[] #[],J (AI ⟨pb,0,be⟩) 2 cap] w1 λe w'=>∃v',e=By v'/\Own w1.heap.size w' v' (av a b)/\Below w1.heap.size w1 w'):=λw1 aB=>
  iu a b va vb pb cap w1 (ha.below aB) (hb.below aB) (IN hpb aB.size) ((cz aB).1 pb 0 hpb |>.trans hc0) ((cz aB).1 pb 1 hpb |>.trans hc1) za.1 zb.1 za.2.1
 have Ef:(av a b).length<=12:=by have h1:=di b a;have h2:=za.1;have h3:=zb.1;omega
 clear h0 Dp PX za zb ha hb hc0 hc1;generalize av a b=jl at *;generalize GL:jl.length=n at *;have WH:Hid _:=GL;clear GL;go_enter Tryz.func110,Tryz.ntmps110;go_wp2_with (go_at_call 173;refine HC.out.mono ?_;rintro e w1 ⟨rfl,aB⟩);refine(HJ.out w1 aB).mono ?_;rintro e w2 ⟨v',rfl,ho,aJ⟩;have zK:∃p c,v'=J p n c:=by
  have hn:=WH.out;rcases ho.2 with⟨h,h0⟩|⟨g,c,cur,h,_⟩
  .exact⟨be,0,by rw[h];congr 1;omega⟩
  .exact⟨_,c,by rw[h,hn]⟩
 obtain⟨p,c,rfl⟩:=zK;have PY:Hid _:=aB.trans (aJ.mono aB.size);have dY:Hid (Own _ _ _ _):=ho.mono aB.size;clear ho aB aJ HC HJ;by_cases aW:6<n
 .go_wp2_with fail
  go_ret2;refine⟨_,by rw[HE.out,if_pos aW];rfl,PY.out,λ_=>rfl,λh=>by omega⟩
 .go_wp2_with fail
  go_ret2;refine⟨J p n c,by rw[HE.out,if_neg aW];rfl,PY.out,λh=>by omega,λ_=>dY.out⟩
end Gw
end Go.Proofs.YtfidhgjmifendaaGreatDoor
