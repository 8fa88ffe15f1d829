import Derived.Test.YtbfghimjdlpicaaGreatDoorna3
set_option maxHeartbeats 4000000
set_option maxRecDepth 100000
open Go.Obj renaming cells→By
open Option renaming none→be,some→AI
open Go.Value renaming int→U,slice→J,agg→Ik,string→Y,bool→Ia,func→IQ,tuple→Ip
open Go.IntKind renaming i64→O
open Go.Ending renaming returned→AT
open Go.Proofs.Tryz renaming ntmps169→Q9,func158→Q0,ntmps158→QH,prog→AS
open Go renaming wp_loop_rounds→Od,rounds_succ→JZ,heap_alloc_new→Ij,redrawn→Im,Regrown→JP,wp_region_quiet_below→IA
open Go.RowKit.Below renaming refl→Ib
open Nat renaming le_refl→Ie,not_lt_zero→Jj,lt_succ_iff_lt_or_eq→I6,zero_le→IF,zero_add→ID,lt_of_lt_of_le→IJ
open Go.World renaming new_ne→QV
open Go.Sort renaming grow→Ig
open Go.Calls renaming regrown_of→IV
namespace Go.Proofs.YtbfghimjdlpicaaGreatDoor
namespace Sv
open Go.RowKit
theorem yM{W:World}{cs:Array Value}{t:TypeId}{g k:Nat}(hg:g=W.heap.size):(W.alloc (By cs t)).cell? ⟨g,k,be⟩=cs[k]?:=by subst hg;simp
theorem rP{a b:ByteArray}(h:¬ a=b):Op.bytesLess a.toList b.toList = !Op.bytesLess b.toList a.toList:=by
 have h1:=uB b.toList a.toList;rw[(fb h).1,Bool.or_false] at h1;exact h1.symm
def T4(a b:Int):Int:=if a=0 then b else a
theorem CN(a b:Int)(g:Nat)(c:Nat)(w:World)(h0:w.cell? ⟨g,0,be⟩=AI (U O a))(h1:w.cell? ⟨g,1,be⟩=AI (U O b)) :
 aK 169 #[J (AI ⟨g,0,be⟩) 2 c] w λe w'=>e=AT (U O (T4 a b))/\w'=w:=by
 by_cases ha:a=0
 .subst ha
  by_cases hb:b=0
  .subst hb
   go_enter Tryz.func169,Q9;go_wp2_with fail;refine Od 3 ?_;rw[JZ];go_wp2_with fail;rw[JZ];go_wp2_with fail;rw[JZ];go_wp2_with fail;go_ret;exact⟨rfl,rfl⟩
  .have yN:(b !=0)=true:=by simpa using hb
   go_enter Tryz.func169,Q9;go_wp2_with fail;refine Od 3 ?_;rw[JZ];go_wp2_with fail;rw[JZ];go_wp2_with fail;go_ret;exact⟨rfl,rfl⟩
 .have ha':(a !=0)=true:=by simpa using ha
  go_enter Tryz.func169,Q9;go_wp2_with fail;refine Od 3 ?_;rw[JZ];go_wp2_with fail;go_ret;exact⟨an (by unfold T4;rw[if_neg ha]),rfl⟩
theorem dK(a b:aV)(w:World) :
 aK 143 #[Ik #[Y a.node,Y a.bf,Y a.name,Y a.tag,U O a.addr,U O a.port,Ia a.af,U O a.version,Ia a.gone],Ik #[Y b.node,Y b.bf,Y b.name,Y b.tag,U O b.addr,U O b.port,Ia b.af,U O b.version,Ia b.gone]] w λe w'=>e=AT (U O (ord a b))/\Below w.heap.size w w':=by
 go_enter Tryz.func143,Tryz.ntmps143;go_wp2_with fail;obtain⟨W,hW⟩:∃W,W=(w.alloc (By #[Y a.node,Y a.bf,Y a.name,Y a.tag,U O a.addr,U O a.port,Ia a.af,U O a.version,Ia a.gone] 38)).alloc (By #[Y b.node,Y b.bf,Y b.name,Y b.tag,U O b.addr,U O b.port,Ia b.af,U O b.version,Ia b.gone] 38):=⟨_,rfl⟩;rw[<- hW];have tp:Below w.heap.size w W:=by rw[hW];exact((Ib _ _).alloc (Ie _) _).alloc (by simp) _
 have hga:W.heap[w.heap.size]?=AI (By #[Y a.node,Y a.bf,Y a.name,Y a.tag,U O a.addr,U O a.port,Ia a.af,U O a.version,Ia a.gone] 38 (0,0)):=by
  rw[hW,Below.heap_alloc _ _ _ (by simp)];exact Ij w _
 have CF:W.heap[w.heap.size+1]?=AI (By #[Y b.node,Y b.bf,Y b.name,Y b.tag,U O b.addr,U O b.port,Ia b.af,U O b.version,Ia b.gone] 38 (0,0)):=by
  have h:=Ij (w.alloc (By #[Y a.node,Y a.bf,Y a.name,Y a.tag,U O a.addr,U O a.port,Ia a.af,U O a.version,Ia a.gone] 38)) (By #[Y b.node,Y b.bf,Y b.name,Y b.tag,U O b.addr,U O b.port,Ia b.af,U O b.version,Ia b.gone] 38);rw[hW];simpa using h
 have n0:W.cell? ⟨w.heap.size,0,be⟩=AI (Y a.node):=ae hga 0;have n1:W.cell? ⟨w.heap.size,1,be⟩=AI (Y a.bf):=ae hga 1;have m0:W.cell? ⟨w.heap.size+1,0,be⟩=AI (Y b.node):=ae CF 0;have m1:W.cell? ⟨w.heap.size+1,1,be⟩=AI (Y b.bf):=ae CF 1;have qp:Hid (Below w.heap.size w W):=tp;have RT:=tp.size;have h1:=QV W _ n0;have h2:=QV W _ n1;have h3:=QV W _ m0;have h4:=QV W _ m1;clear hga CF hW tp;go_region_held3 (λw'=>w'.cell? ⟨w.heap.size,0,be⟩=AI (Y a.node)/\w'.cell? ⟨w.heap.size,1,be⟩=AI (Y a.bf)/\w'.cell? ⟨w.heap.size+1,0,be⟩=AI (Y b.node)/\w'.cell? ⟨w.heap.size+1,1,be⟩=AI (Y b.bf)) (go_keep) (first|(go_at_call 70;refine(iq _ _ _).mono ?_;rintro e w' ⟨rfl,rfl⟩)|(go_at_call 169;refine(CN (bW a.node b.node) (bW a.bf b.bf) _ _ _ (yM rfl) (yM rfl)).mono ?_;rintro e w' ⟨rfl,rfl⟩))
 go_wp2_with fail;go_ret;exact⟨rfl,(qp.out.alloc RT _).drew⟩
theorem eC(a b:aV):bF a b=if a.version=b.version then(if a.gone=b.gone then(if a.name=b.name then(if a.tag=b.tag then(if a.addr=b.addr then(if a.port=b.port then(a.af&&!b.af) else decide (b.port<a.port)) else decide (b.addr<a.addr)) else less b.tag a.tag) else less b.name a.name) else a.gone) else decide (b.version<a.version):=by
 have hI:∀x y:Int,(x-y=0)↔x=y:=λx y=>by omega
 have hB:∀x y:Bool,(RL.bI x=RL.bI y)↔x=y:=λx y=>⟨λh=>RL.DP (by omega),λh=>by rw[h]⟩;have hP:∀x y:Int,(0<x-y)↔y<x:=λx y=>by omega
 have hL:∀x y:ByteArray,decide (0<bW x y)=less y x:=λx y=>by rw[Bool.eq_iff_iff,decide_eq_true_eq];exact oS x y
 have hG:∀x y:Bool,x≠y->decide (0<RL.bI x-RL.bI y)=x:=λx y h=>by cases x<;>cases y<;>simp[RL.bI] at h ⊢
 have hQ:∀x y:Bool,decide (0<RL.bI x-RL.bI y)=(x&&!y):=λx y=>by cases x<;>cases y<;>simp[RL.bI]
 simp only[bF,zJ,RL.lex,hI,hB,bL];by_cases h1:a.version=b.version
 .simp only[if_pos h1]
  by_cases h2:a.gone=b.gone
  .simp only[if_pos h2]
   by_cases h3:a.name=b.name
   .simp only[if_pos h3]
    by_cases h4:a.tag=b.tag
    .simp only[if_pos h4]
     by_cases h5:a.addr=b.addr
     .simp only[if_pos h5]
      by_cases h6:a.port=b.port
      .simp only[if_pos h6];exact hQ _ _
      .simp only[if_neg h6,hP]
     .simp only[if_neg h5,hP]
    .simp only[if_neg h4];exact hL _ _
   .simp only[if_neg h3];exact hL _ _
  .simp only[if_neg h2];exact hG _ _ h2
 .simp only[if_neg h1,hP]
theorem EF(f:Nat)(hf:f=158)(a_node:ByteArray)(a_idn:ByteArray)(a_name:ByteArray)(a_tag:ByteArray)(a_addr:Int)(a_port:Int)(a_passing:Bool)(a_version:Int)(a_gone:Bool)(b_node:ByteArray)(b_idn:ByteArray)(b_name:ByteArray)(b_tag:ByteArray)(b_addr:Int)(b_port:Int)(b_passing:Bool)(b_version:Int)(b_gone:Bool)(w:World) :
 ly f #[Ik #[Y a_node,Y a_idn,Y a_name,Y a_tag,U O a_addr,U O a_port,Ia a_passing,U O a_version,Ia a_gone],Ik #[Y b_node,Y b_idn,Y b_name,Y b_tag,U O b_addr,U O b_port,Ia b_passing,U O b_version,Ia b_gone]] w (Ia (bF ⟨a_node,a_idn,a_name,a_tag,a_addr,a_port,a_passing,a_version,a_gone⟩ ⟨b_node,b_idn,b_name,b_tag,b_addr,b_port,b_passing,b_version,b_gone⟩)):=by
 subst hf;have hB:Hid (Below w.heap.size w ((w.alloc (By #[Y a_node,Y a_idn,Y a_name,Y a_tag,U O a_addr,U O a_port,Ia a_passing,U O a_version,Ia a_gone] 38)).alloc (By #[Y b_node,Y b_idn,Y b_name,Y b_tag,U O b_addr,U O b_port,Ia b_passing,U O b_version,Ia b_gone] 38))):=((Ib _ _).alloc (Ie _) _).alloc (by simp) _;by_cases h1:a_version=b_version
 .subst h1
  by_cases h2:a_gone=b_gone
  .subst h2
   by_cases h3:a_name=b_name
   .subst h3
    by_cases h4:a_tag=b_tag
    .subst h4
     by_cases h5:a_addr=b_addr
     .subst h5
      by_cases h6:a_port=b_port
      .subst h6
       cases a_passing
       all_goals
        go_enter Q0,QH;go_wp2;go_ret;exact⟨aW (by rw[eC];simp),hB.out⟩
      .have h6':(a_port !=b_port)=true:=by simpa using h6
       go_enter Q0,QH;go_wp2;go_ret;exact⟨aW (by rw[eC];simp[h6]),hB.out⟩
     .have h5':(a_addr !=b_addr)=true:=by simpa using h5
      go_enter Q0,QH;go_wp2;go_ret;exact⟨aW (by rw[eC];simp[h5]),hB.out⟩
    .obtain⟨g1,g2⟩:=fb h4
     have H4:Hid (¬ a_tag=b_tag):=h4;clear h4;go_enter Q0,QH;go_wp2;go_ret;exact⟨aW (by rw[eC];simp[H4.out,less];exact rP H4.out),hB.out⟩
   .obtain⟨g1,g2⟩:=fb h3
    have H3:Hid (¬ a_name=b_name):=h3;clear h3;go_enter Q0,QH;go_wp2;go_ret;exact⟨aW (by rw[eC];simp[H3.out,less];exact rP H3.out),hB.out⟩
  .have hg:b_gone = !a_gone:=by cases a_gone<;>cases b_gone<;>simp at h2 ⊢
   subst hg;clear h2;cases a_gone
   all_goals
    go_enter Q0,QH;go_wp2;go_ret;exact⟨aW (by rw[eC];simp),hB.out⟩
 .have Sm:(a_version !=b_version)=true:=by simpa using h1
  go_enter Q0,QH;go_wp2;go_ret;exact⟨aW (by rw[eC];simp[h1]),hB.out⟩
theorem ic(a b:aV)(w:World) :
 aK 158 #[Ik #[Y a.node,Y a.bf,Y a.name,Y a.tag,U O a.addr,U O a.port,Ia a.af,U O a.version,Ia a.gone],Ik #[Y b.node,Y b.bf,Y b.name,Y b.tag,U O b.addr,U O b.port,Ia b.af,U O b.version,Ia b.gone]] w λe w'=>e=AT (Ia (bF a b))/\Below w.heap.size w w':=
 EF _ rfl a.node a.bf a.name a.tag a.addr a.port a.af a.version a.gone b.node b.bf b.name b.tag b.addr b.port b.af b.version b.gone w
end Sv
namespace Sv
open Go.RowKit
theorem kG(ms:List aV)(b off cap:Nat)(w:World)(hr:Row w b off ms)(hb:b<w.heap.size)(hn:ms.length<=40) :
 Calls AS 142 #[J (AI ⟨b,off,be⟩) ms.length cap,IQ (.func 143) #[] #[]] w λe w'=>e=AT (Ia (aR ms))/\Below w.heap.size w w':=by
 have HR:Hid (Row w b off ms):=hr;clear hr;have H4:Hid (∀k,k+1<ms.length->0<=ord (ms.getD k dm) (ms.getD (k+1) dm)->aR ms=false):=λk hk hl=>by
  rcases h:aR ms with _|_
  .rfl
  .have:=fV ms h k hk;omega
 have H0:Hid ((∀j,j+1<ms.length->ord (ms.getD j dm) (ms.getD (j+1) dm)<0)->aR ms=true):=fW ms;generalize hN:ms.length=n at *;have HN:Hid (ms.length=n):=hN;clear hN;generalize hC:aR ms=res at *;have HC:Hid (aR ms=res):=hC;clear hC;go_enter Tryz.func142,Tryz.ntmps142;go_wp2_with fail;go_loopw [5] (λi w'=>∃k:Nat,(k+1<=n\/k=0)/\i=U O (k+1)/\Below w.heap.size w w'/\Hid (∀j,j<k->ord (ms.getD j dm) (ms.getD (j+1) dm)<0)) (λi _=>n-(intOf i).toNat)
 case atStart=>exact⟨0,.inr rfl,rfl,Ib _ _,λj h=>absurd h (Jj _)⟩
 case round=>
  obtain⟨q,hq,rfl,aO,hz⟩:=hrel;obtain⟨cK,kj⟩:=cd aO;have cB:=aO.size;by_cases aX:q+1<n
  .have F:=((HR.out q (by rw[HN.out];omega)).eq (λo=>cK b o hb)).re
   have G:=((HR.out (q+1) (by rw[HN.out];exact aX)).eq (λo=>cK b o hb)).re;have HK:Hid (0<=ord (ms.getD q dm) (ms.getD (q+1) dm)->res=false):=λh=>H4.out q aX h;have HZ:Hid (ord (ms.getD q dm) (ms.getD (q+1) dm)<0->∀j,j<q+1->ord (ms.getD j dm) (ms.getD (j+1) dm)<0):=λh j hj=>by
    rcases I6.1 hj with h2|rfl
    .exact hz.out j h2
    .exact h
   generalize ms.getD q dm=m1 at *;generalize ms.getD (q+1) dm=m2 at *;have hN:∀d os,Calls AS 143 #[Ik #[Y m1.node,Y m1.bf,Y m1.name,Y m1.tag,U O m1.addr,U O m1.port,Ia m1.af,U O m1.version,Ia m1.gone],Ik #[Y m2.node,Y m2.bf,Y m2.name,Y m2.tag,U O m2.addr,U O m2.port,Ia m2.af,U O m2.version,Ia m2.gone]] (Ig (Im wr d) os) λe fR=>e=AT (U O (ord m1 m2))/\∃p:JP,fR=Ig (Im wr p.d) p.os:=λd os=>IV (dK m1 m2 _);simp only[As] at F G;clear cK kj;generalize ord m1 m2=r at *;have Lr:IntKind.i64.wrap (q:Int)=(q:Int):=by rw[IntKind.wrap_i64];omega
   have Gn:q<n:=by omega
   have hq1:(q:Int)+1<(n:Int):=by omega
   have hq0:(0:Int)<=(q:Int)+1:=by omega
   have Gp:((q:Int)+1).toNat=q+1:=by omega
   go_wp2_with fail;refine IA (by kernel_rfl) (by kernel_rfl) ?_;repeat(quiet_step (exact hN _ _))
   refine bu λdq gW dF=>?_;clear hN F G;by_cases hl:r<0
   .have jE:¬ (0<=r):=by omega
    go_wp2_with fail;go_roundw
    case rel=>exact⟨q+1,.inl (by omega),by go_num,aO.trans (dF.out.mono cB),HZ.out hl⟩
    case measure=>simp[intOf];omega
   .have jE:0<=r:=by omega
    have h4:Hid (res=false):=HK.out jE;go_wp2_with fail;go_ret;exact⟨aW h4.out.symm,aO.trans (dF.out.mono cB)⟩
  .have h0:Hid (res=true):=H0.out λj hj=>hz.out j (by omega)
   go_wp2_with fail;go_ret;exact⟨aW h0.out.symm,aO⟩
theorem gZ(a:Option Addr)(cap:Nat)(fv:Value)(w:World) :
 Calls AS 142 #[J a 0 cap,fv] w λe w'=>e=AT (Ia true)/\w'=w:=by
 go_enter Tryz.func142,Tryz.ntmps142;go_wp2_with fail;go_loop [5] (λi=>i=U O 1) (λ_=>0)
 case atStart=>rfl
 case round=>
  subst hrel;go_wp2_with fail;go_ret;exact⟨rfl,rfl⟩
theorem il(ms:List aV)(b off cap:Nat)(lk:aV)(w:World)(hr:Row w b off ms)(hb:b<w.heap.size)(hn:ms.length<=80)(iY:∀i j,i<=j->j<ms.length->ord (ms.getD j dm) lk<0->ord (ms.getD i dm) lk<0) :
 Calls AS 236 #[J (AI ⟨b,off,be⟩) ms.length cap,Ik #[Y lk.node,Y lk.bf,Y lk.name,Y lk.tag,U O lk.addr,U O lk.port,Ia lk.af,U O lk.version,Ia lk.gone],IQ (.func 143) #[] #[]] w λe w'=>∃(p:Nat) (f:Bool),e=AT (Ip #[U O p,Ia f])/\Below w.heap.size w w' /\
  p<=ms.length/\(∀j,j<p->ord (ms.getD j dm) lk<0)/\(∀j,p<=j->j<ms.length->0<=ord (ms.getD j dm) lk)/\(f=true↔p<ms.length/\ord (ms.getD p dm) lk=0):=by
 have HR:Hid (Row w b off ms):=hr;clear hr;have HM:Hid _:=iY;clear iY;generalize hN:ms.length=n at *;have HN:Hid (ms.length=n):=hN;clear hN;go_enter Tryz.func236,Tryz.ntmps236;go_wp2_with fail;obtain⟨W0,bP,bK,fj,dX⟩:=bV w #[Y lk.node,Y lk.bf,Y lk.name,Y lk.tag,U O lk.addr,U O lk.port,Ia lk.af,U O lk.version,Ia lk.gone] 38;have Hd:Hid (Row W0 b off ms):=HR.out.later bK hb;have HT:Hid (As W0 w.heap.size 0 lk):=⟨ae dX 0,ae dX 1,ae dX 2,ae dX 3,ae dX 4,ae dX 5,ae dX 6,ae dX 7,ae dX 8⟩;have df:Hid (Below w.heap.size w W0):=bK;have vp:Hid (W0=w.alloc (By #[Y lk.node,Y lk.bf,Y lk.name,Y lk.tag,U O lk.addr,U O lk.port,Ia lk.af,U O lk.version,Ia lk.gone] 38)):=bP;clear dX bK HR bP;have yN:b<w.heap.size+1:=by omega
 go_loopw [9,10] (λi j w'=>∃k l:Nat,k<=l/\l<=n/\i=U O k/\j=U O l/\Below (w.heap.size+1) W0 w'/\Hid (∀j,j<k->ord (ms.getD j dm) lk<0)/\Hid (∀j,l<=j->j<n->0<=ord (ms.getD j dm) lk)) (λi j _=>(intOf j).toNat-(intOf i).toNat)
 case atStart=>exact⟨0,n,IF _,Ie _,rfl,rfl,by rw[vp.out];exact Ib _ _,λj h=>absurd h (Jj _),λj h1 h2=>by omega⟩
 case round=>
  obtain⟨k,l,ie,Nz,rfl,rfl,aO,Au,Av⟩:=hrel;have cB:=aO.size;have cK:∀b o,b<w.heap.size+1->wr.cell? ⟨b,o,be⟩=W0.cell? ⟨b,o,be⟩:=λb o h=>aO.cell (p:=⟨b,o,be⟩) h;have G:=(HT.out.eq (λo=>cK w.heap.size o (by omega))).re;simp only[As,ID] at G;by_cases aX:k<l
  .obtain⟨h,hh,h1,h2⟩:∃h:Nat,((k:Int)+(l:Int))/2=(h:Int)/\k<=h/\h<l:=⟨(k+l)/2,by omega,by omega,by omega⟩
   have F:=((Hd.out h (by rw[HN.out];omega)).eq (λo=>cK b o yN)).re;have rC:=HM.out;have HK:Hid (ord (ms.getD h dm) lk<0->∀j,j<h+1->ord (ms.getD j dm) lk<0):=λhx j hj=>rC j h (by omega) (by omega) hx;have HL:Hid (0<=ord (ms.getD h dm) lk->∀j,h<=j->j<n->0<=ord (ms.getD j dm) lk):=λhx j hj yP=>by
    apply Int.not_lt.1;intro hq;have:=rC h j hj yP hq;omega
   clear rC;have hhn:h<n:=by omega
   generalize ms.getD h dm=m at *;have hO:∀d os,Calls AS 143 #[Ik #[Y m.node,Y m.bf,Y m.name,Y m.tag,U O m.addr,U O m.port,Ia m.af,U O m.version,Ia m.gone],Ik #[Y lk.node,Y lk.bf,Y lk.name,Y lk.tag,U O lk.addr,U O lk.port,Ia lk.af,U O lk.version,Ia lk.gone]] (Ig (Im wr d) os) λe fR=>e=AT (U O (ord m lk))/\∃p:JP,fR=Ig (Im wr p.d) p.os:=λd os=>IV (dK m lk _);simp only[As] at F;clear cK;generalize ord m lk=r at *;go_wp2_with fail;refine IA (by kernel_rfl) (by kernel_rfl) ?_;repeat(quiet_step (exact hO _ _))
   refine bu λdq gW dF=>?_;clear hO F G;by_cases xx:r<0
   .go_wp2_with fail
    exact⟨⟨h+1,l,by omega,by omega,by go_num,rfl,aO.trans (dF.out.mono (by omega)),HK.out xx,Av⟩,by simp[intOf];omega⟩
   .have BD:0<=r:=by omega
    go_wp2_with fail;exact⟨⟨k,h,by omega,by omega,rfl,rfl,aO.trans (dF.out.mono (by omega)),Au,HL.out BD⟩,by simp[intOf];omega⟩
  .have Ef:l=k:=by omega
   subst Ef;by_cases eJ:l<n
   .have F:=((Hd.out l (by rw[HN.out];omega)).eq (λo=>cK b o yN)).re
    generalize hm:ms.getD l dm=m at *;have Hm:Hid (ms.getD l dm=m):=hm;clear hm;have hO:∀d os,Calls AS 143 #[Ik #[Y m.node,Y m.bf,Y m.name,Y m.tag,U O m.addr,U O m.port,Ia m.af,U O m.version,Ia m.gone],Ik #[Y lk.node,Y lk.bf,Y lk.name,Y lk.tag,U O lk.addr,U O lk.port,Ia lk.af,U O lk.version,Ia lk.gone]] (Ig (Im wr d) os) λe fR=>e=AT (U O (ord m lk))/\∃p:JP,fR=Ig (Im wr p.d) p.os:=λd os=>IV (dK m lk _);simp only[As] at F;clear cK;generalize DY:ord m lk=r at *;have Hr:Hid (ord m lk=r):=DY;clear DY;go_wp2_with fail;refine IA (by kernel_rfl) (by kernel_rfl) ?_;repeat(quiet_step (exact hO _ _))
    refine bu λdq gW dF=>?_;clear hO F G;go_wp2_with fail;go_ret2;refine⟨l,_,rfl,df.out.trans ((aO.trans (dF.out.mono (by omega))).mono (by omega)),by omega,Au.out,Av.out,?_⟩;rw[Hm.out,Hr.out];simp[eJ]
   .clear G
    have hkd:decide ((l:Int)<(n:Int))=false:=by simp;omega
    go_wp2_with fail;go_quiet (fail)
    go_wp2_with fail;go_ret2;refine⟨l,_,rfl,df.out.trans ((below_drewN aO _).mono (by omega)),by omega,Au.out,Av.out,?_⟩;simp[eJ]
theorem gu(a:Option Addr)(cap:Nat)(lk:aV)(fv:Value)(w:World) :
 Calls AS 236 #[J a 0 cap,Ik #[Y lk.node,Y lk.bf,Y lk.name,Y lk.tag,U O lk.addr,U O lk.port,Ia lk.af,U O lk.version,Ia lk.gone],fv] w λe w'=>e=AT (Ip #[U O 0,Ia false])/\Below w.heap.size w w':=by
 go_enter Tryz.func236,Tryz.ntmps236;go_wp2_with fail;go_loop [9,10] (λi j=>i=U O 0/\j=U O 0) (λ_ _=>0)
 case atStart=>exact⟨rfl,rfl⟩
 case round=>
  obtain⟨rfl,rfl⟩:=hrel;go_wp2_with fail;go_quiet (fail)
  go_wp2_with fail;go_ret2;exact⟨rfl,below_drewN ((Ib _ _).alloc (Ie _) _) _⟩
theorem gv(ms:List aV)(v:Value)(lk:aV)(w:World)(h:Sl w v ms)(hn:ms.length<=80)(iY:∀i j,i<=j->j<ms.length->ord (ms.getD j dm) lk<0->ord (ms.getD i dm) lk<0) :
 Calls AS 236 #[v,Ik #[Y lk.node,Y lk.bf,Y lk.name,Y lk.tag,U O lk.addr,U O lk.port,Ia lk.af,U O lk.version,Ia lk.gone],IQ (.func 143) #[] #[]] w λe w'=>∃(p:Nat) (f:Bool),e=AT (Ip #[U O p,Ia f])/\Below w.heap.size w w'/\At ms lk p f:=by
 obtain⟨a,cap,rfl,hs,h⟩:=h;rcases h with rfl|⟨b,off,rfl,hb,hr⟩
 .refine(gu a cap lk _ w).mono ?_
  rintro e w' ⟨rfl,hb⟩;exact⟨0,false,rfl,hb,⟨by simp,λj h=>by omega,λj h h2=>by simp at h2,by simp⟩⟩
 .refine(il ms b off cap lk w hr hb hn iY).mono ?_
  rintro e w' ⟨p,f,rfl,aO,g1,g2,g3,g4⟩;exact⟨p,f,rfl,aO,⟨g1,g2,g3,g4⟩⟩
theorem gf(ms:List aV)(v:Value)(lk:aV)(w:World)(h:Sl w v ms)(hn:ms.length<=80)(hr:aT ms) :
 Calls AS 198 #[v,Ik #[Y lk.node,Y lk.bf,Y lk.name,Y lk.tag,U O lk.addr,U O lk.port,Ia lk.af,U O lk.version,Ia lk.gone],IQ (.func 143) #[] #[]] w λe w'=>∃(p:Nat) (f:Bool),e=AT (Ip #[U O p,Ia f])/\Below w.heap.size w w'/\At ms lk p f:=by
 have HC:Hid (∀w',Below w.heap.size w w'->Calls AS 236 #[v,Ik #[Y lk.node,Y lk.bf,Y lk.name,Y lk.tag,U O lk.addr,U O lk.port,Ia lk.af,U O lk.version,Ia lk.gone],IQ (.func 143) #[] #[]] w' λe fR=>∃(p:Nat) (f:Bool),e=AT (Ip #[U O p,Ia f])/\Below w'.heap.size w' fR/\At ms lk p f):=
  λw' hb=>gv ms v lk w' (h.below hb) hn (eu hr lk)
 clear h hn hr;go_enter Tryz.func198,Tryz.ntmps198;go_wp2_with (go_at_call 236;refine(HC.out _ ?hb).mono ?_)
 case hb=>exact(Ib _ _).alloc (Ie _) _
 rintro e w' ⟨p,f,rfl,aO,cA⟩;have fm:Hid (At ms lk p f):=cA;clear cA;go_wp2_with fail;go_ret2;exact⟨p,f,rfl,((Ib _ _).alloc (Ie _) _).trans (aO.mono (by simp)),fm.out⟩
end Sv
namespace Sv
open Go.RowKit
theorem mZ{a b:List aV}(nc:a.length<=40)(lH:b.length<=40)(k:Nat):(dV a b k).length<=80:=by
 unfold dV;split
 .simp
 .split
  .omega
  .have:=dj b a;omega
structure Da(w:World)(pb:Nat)(a b:List aV)(k:Nat)(l:List aV)(pk:Option Addr)(ck:Nat):Prop where
 cell:w.cell? ⟨pb,k,be⟩=AI (J pk l.length ck)
 row:l=[]\/∃b off,pk=AI ⟨b,off,be⟩/\b<w.heap.size/\Row w b off l
 MM:∀m∈l,(m).ok
 len:l.length<=40
 Db:(dV a b k).length<=40
 vi:aT (dV a b k)
 Dc:∀m∈dV a b k,(m).ok
 step:dV a b (k+1)=aB (dV a b k) l
theorem qt{a b:List aV}{va vb:Value}{pb:Nat}{w:World}(ha:Sl w va a)(hb:Sl w vb b)(hc0:w.cell? ⟨pb,0,be⟩=AI va)(hc1:w.cell? ⟨pb,1,be⟩=AI vb)(nc:a.length<=40)(lH:b.length<=40)(ra:aT a)(k:Nat)(hk:k<2) :
 ∃l pk ck,Da w pb a b k l pk ck:=by
 obtain⟨pa,ca,rfl,MN,ha⟩:=ha;obtain⟨pv,cb,rfl,Rc,hb⟩:=hb;have ib:k=0\/k=1:=by omega
 rcases ib with rfl|rfl
 .exact⟨a,pa,ca,hc0,ha,dI MN,nc,by simp[dV],by simp[dV],by simp[dV],(ju a ra).symm⟩
 .exact⟨b,pv,cb,hc1,hb,dI Rc,lH,nc,ra,dI MN,rfl⟩
theorem jv(a b:List aV)(va vb:Value)(pb cap:Nat)(w:World)(ha:Sl w va a)(hb:Sl w vb b)(hpb:pb<w.heap.size)(hc0:w.cell? ⟨pb,0,be⟩=AI va)(hc1:w.cell? ⟨pb,1,be⟩=AI vb)(nc:a.length<=40)(lH:b.length<=40)(ra:aT a) :
 Calls AS 157 #[IQ (.func 143) #[] #[],IQ (.func 158) #[] #[],J (AI ⟨pb,0,be⟩) 2 cap] w λe w'=>∃v',e=AT v'/\Own w.heap.size w' v' (aB a b)/\Below w.heap.size w w':=by
 have HK:Hid (∀k,k<2->∃l pk ck,Da w pb a b k l pk ck):=λk hk=>qt ha hb hc0 hc1 nc lH ra k hk;have xh:Hid (∀k,(dV a b k).length<=80):=mZ nc lH;clear ha hb hc0 hc1 nc lH ra;go_enter Tryz.func157,Tryz.ntmps157;go_wp2_with fail;go_loopw [7,16] (λkn i w'=>∃k:Nat,k<=2/\i=U O k/\Below w.heap.size w w'/\Hid (Own w.heap.size w' kn (dV a b k))) (λ_ i _=>2-(intOf i).toNat)
 case atStart=>exact⟨0,by omega,rfl,Ib _ _,cv _ _⟩
 case round=>
  obtain⟨k,hk,rfl,aO,HO⟩:=hrel;obtain⟨cK,kj⟩:=cd aO;have cB:=aO.size;by_cases ji:k<2
  .obtain⟨l,pk,ck,qu⟩:=HK.out k ji
   have qv:Hid (Da w pb a b k l pk ck):=qu;have gO:=qu.cell;clear qu;generalize tt:l.length=nl at *;have lB:Hid (l.length=nl):=tt;clear tt;have MO:nl<=40:=by have:=qv.out.len;have:=lB.out;omega
   have Wv:(k:Int)<2:=by omega
   go_wp2_with fail;go_loopw [7,22] (λkn j w'=>∃q:Nat,q<=nl/\j=U O q/\Below w.heap.size w w'/\Hid (Own w.heap.size w' kn (aB (dV a b k) (l.take q)))) (λ_ j _=>nl-(intOf j).toNat)
   case atStart=>exact⟨0,IF _,rfl,aO,HO⟩
   case round=>
    clear cK kj cB aO HO gO;obtain⟨q,hq,rfl,aO,HO⟩:=hrel;obtain⟨cK,kj⟩:=cd aO;have cB:=aO.size;by_cases aX:q<nl
    .obtain⟨b2,off,Dd,Re,cL⟩:∃nf off,pk=AI ⟨nf,off,be⟩/\nf<w.heap.size/\Row w nf off l:=by
      rcases qv.out.row with h|h
      .have:=lB.out;rw[h] at this;simp at this;omega
      .exact h
     subst Dd;obtain⟨c0,c1,c2,c3,c4,c5,c6,c7,c8⟩:=cL q (by rw[lB.out];exact aX);clear cL;have HJ:Hid (aB (dV a b k) (l.take (q+1))=aN (aB (dV a b k) (l.take q)) (l.getD q dm)):=gd (dV a b k) l q (by rw[lB.out];exact aX);have HR:Hid (aT (aB (dV a b k) (l.take q))):=dz _ _ qv.out.vi;have RW:Hid (∀j,((aB (dV a b k) (l.take q)).getD j dm).ok):=cD (iP _ _ qv.out.Dc (λx hx=>qv.out.MM x (List.mem_of_mem_take hx)));have HL:Hid ((aB (dV a b k) (l.take q)).length<=80):=by
      have h1:=dj (l.take q) (dV a b k);have h2:(l.take q).length<=q:=List.length_take_le _ _;have h3:=qv.out.Db;show(aB (dV a b k) (l.take q)).length<=80;omega
     generalize l.getD q dm=m at *;generalize aB (dV a b k) (l.take q)=known at *;have GX:known.length<=80:=HL.out;obtain⟨W1,db,aC,fO,cI⟩:=bV wr #[Y m.node,Y m.bf,Y m.name,Y m.tag,U O m.addr,U O m.port,Ia m.af,U O m.version,Ia m.gone] 38;have mT:Hid (Own w.heap.size W1 u7 known):=HO.out.below aC;have HF:Hid (Calls AS 198 #[u7,Ik #[Y m.node,Y m.bf,Y m.name,Y m.tag,U O m.addr,U O m.port,Ia m.af,U O m.version,Ia m.gone],IQ (.func 143) #[] #[]] W1 λe w'=>∃(p:Nat) (f:Bool),e=AT (Ip #[U O p,Ia f])/\Below W1.heap.size W1 w'/\At known m p f):=
      gf known u7 m W1 (mT.out.sl RW.out) HL.out HR.out
     have aZ:Hid (Below w.heap.size w W1):=aO.trans (aC.mono cB);have HT:Hid (As W1 wr.heap.size 0 m):=⟨ae cI 0,ae cI 1,ae cI 2,ae cI 3,ae cI 4,ae cI 5,ae cI 6,ae cI 7,ae cI 8⟩;have pD:Hid _:=db;have xe:w.heap.size<=W1.heap.size:=by omega
     clear cI aC HO HL HR db;go_wp2_with fail;rw[<- pD.out];refine HF.out.mono ?_;rintro e w2 ⟨p,f,rfl,aL,cA⟩;have fm:Hid _:=cA;have Ww:=cA.le;have MP:=aL.size;have ja:Hid (Own _ _ _ _):=mT.out.below aL;have bA:Hid _:=aZ.out.trans (aL.mono xe);have zn:Hid (As w2 wr.heap.size 0 m):=HT.out.eq (λo=>aL.cell (p:=⟨wr.heap.size,o,be⟩) (by show wr.heap.size<W1.heap.size;omega));obtain⟨t0,t1,t2,t3,t4,t5,t6,t7,t8⟩:w2.cell? ⟨wr.heap.size,0,be⟩=AI (Y m.node)/\w2.cell? ⟨wr.heap.size,1,be⟩=AI (Y m.bf)/\w2.cell? ⟨wr.heap.size,2,be⟩=AI (Y m.name)/\w2.cell? ⟨wr.heap.size,3,be⟩=AI (Y m.tag)/\w2.cell? ⟨wr.heap.size,4,be⟩=AI (U O m.addr)/\w2.cell? ⟨wr.heap.size,5,be⟩=AI (U O m.port)/\w2.cell? ⟨wr.heap.size,6,be⟩=AI (Ia m.af)/\w2.cell? ⟨wr.heap.size,7,be⟩=AI (U O m.version)/\w2.cell? ⟨wr.heap.size,8,be⟩=AI (Ia m.gone):=zn.out;have jb:w.heap.size<=w2.heap.size:=by omega
     have De:wr.heap.size<w2.heap.size:=by omega
     clear cA HF cK kj c0 c1 c2 c3 c4 c5 c6 c7 c8 aL mT aZ HT;cases f
     .have aP:Hid (u7.ownBlock≠AI w2.heap.size):=λe=>by have:=ja.out.lt _ e;omega
      have eG:Hid (Own w.heap.size (w2.alloc (By #[Y m.node,Y m.bf,Y m.name,Y m.tag,U O m.addr,U O m.port,Ia m.af,U O m.version,Ia m.gone] 38)) u7 known):=ja.out.below ((Ib _ _).alloc (Ie _) _);have rK:Hid ((w2.alloc (By #[Y m.node,Y m.bf,Y m.name,Y m.tag,U O m.addr,U O m.port,Ia m.af,U O m.version,Ia m.gone] 38)).heap[w2.heap.size]?=AI (By m.cs.toArray 38 (0,0))):=Ij w2 _;go_wp2_with (go_at_call 199;refine(gh w.heap.size p w2.heap.size u7 known m _ eG.out fm.out.le (by omega) (by simp;omega) rK.out aP.out).mono ?_;rintro e w4 ⟨v',rfl,g1,g2⟩);go_roundw
      case rel=>
       have gF:∃qw:Nat,qw<=nl/\U O ((q:Int)+1)=U O qw/\Below w.heap.size w w4/\Hid (Own w.heap.size w4 v' (aB (dV a b k) (l.take qw))):=⟨q+1,by omega,by go_num,fU (bA.out.alloc jb _) eG.out g2 (by simp;omega),by rw[HJ.out,dy known m p false fm.out];exact g1⟩;first|exact gF|((repeat apply Exists.intro);exact⟨gF,rfl⟩)
      case measure=>simp[intOf];omega
     .have hp:p<known.length:=(fm.out.is.1 rfl).1
      obtain⟨g,c,hu⟩:=kM ja.out p hp;subst hu;have F:=(fc ja.out p hp).re;have dv:=ja.out.lt g rfl;have Sb:g<w2.heap.size:=dv.2;generalize hm:known.getD p dm=m2 at *;have Hm:Hid _:=hm;clear hm;have hN:∀d os,Calls AS 158 #[Ik #[Y m.node,Y m.bf,Y m.name,Y m.tag,U O m.addr,U O m.port,Ia m.af,U O m.version,Ia m.gone],Ik #[Y m2.node,Y m2.bf,Y m2.name,Y m2.tag,U O m2.addr,U O m2.port,Ia m2.af,U O m2.version,Ia m2.gone]] (Ig (Im w2 d) os) λe fR=>e=AT (Ia (bF m m2))/\∃p:JP,fR=Ig (Im w2 p.d) p.os:=λd os=>IV (ic m m2 _);have G:=zn.out.re;simp only[As,ID] at F G;have tm:∀o,w2.frozen? ⟨g,o,be⟩=false:=λo=>World.ownsRow.frozenAt ja.out o;have HFZ:Hid _:=tm;clear tm t0 t1 t2 t3 t4 t5 t6 t7 t8;generalize Az:bF m m2=nw at *;have MQ:Hid _:=Az;clear Az;go_wp2_with fail;refine IA (by kernel_rfl) (by kernel_rfl) ?_;repeat(quiet_step (exact hN _ _))
      refine bu λdq gW dF=>?_;clear hN F G;cases nw
      .go_wp2_with fail
       go_roundw
       case rel=>
        have gF:∃qw:Nat,qw<=nl/\U O ((q:Int)+1)=U O qw/\Below w.heap.size w (Ig (Im w2 dq) gW)/\Hid (Own w.heap.size (Ig (Im w2 dq) gW) (J (AI ⟨g,0,be⟩) known.length c) (aB (dV a b k) (l.take qw))):=⟨q+1,by omega,by go_num,bA.out.trans (dF.out.mono jb),by rw[HJ.out,dy known m p true fm.out,if_pos rfl,Hm.out,if_neg (λh=>Bool.false_ne_true (MQ.out.symm.trans h))];exact ja.out.below dF.out⟩;first|exact gF|((repeat apply Exists.intro);exact⟨gF,rfl⟩)
       case measure=>simp[intOf];omega
      .generalize Ig (Im w2 dq) gW=w3 at *
       have eG:Hid (Own _ _ _ _):=ja.out.below dF.out;obtain⟨c0,c1,c2,c3,c4,c5,c6,c7,c8⟩:=fc eG.out p hp;rw[Hm.out] at c0 c1 c2 c3 c4 c5 c6 c7 c8;have mJ:=(eG.out.lt g rfl).2;have tm:∀o,w3.frozen? ⟨g,o,be⟩=false:=λo=>World.ownsRow.frozenAt eG.out o;obtain⟨s0,s1,s2,s3,s4,s5,s6,s7,s8⟩:w3.cell? ⟨wr.heap.size,0,be⟩=AI (Y m.node)/\w3.cell? ⟨wr.heap.size,1,be⟩=AI (Y m.bf)/\w3.cell? ⟨wr.heap.size,2,be⟩=AI (Y m.name)/\w3.cell? ⟨wr.heap.size,3,be⟩=AI (Y m.tag)/\w3.cell? ⟨wr.heap.size,4,be⟩=AI (U O m.addr)/\w3.cell? ⟨wr.heap.size,5,be⟩=AI (U O m.port)/\w3.cell? ⟨wr.heap.size,6,be⟩=AI (Ia m.af)/\w3.cell? ⟨wr.heap.size,7,be⟩=AI (U O m.version)/\w3.cell? ⟨wr.heap.size,8,be⟩=AI (Ia m.gone):=zn.out.eq (λo=>dF.out.cell (p:=⟨wr.heap.size,o,be⟩) De);go_wp2_with fail;refine⟨⟨q+1,by omega,by go_num,?_,?_⟩,by simp[intOf];omega⟩
       .exact((((((((((bA.out.trans (dF.out.mono jb)).setCell (p:=⟨g,p*9,be⟩) dv.1 (Y m.node)).setCell (p:=⟨g,p*9+1,be⟩) dv.1 (Y m.bf)).setCell (p:=⟨g,p*9+2,be⟩) dv.1 (Y m.name)).setCell (p:=⟨g,p*9+3,be⟩) dv.1 (Y m.tag)).setCell (p:=⟨g,p*9+4,be⟩) dv.1 (U O m.addr)).setCell (p:=⟨g,p*9+5,be⟩) dv.1 (U O m.port)).setCell (p:=⟨g,p*9+6,be⟩) dv.1 (Ia m.af)).setCell (p:=⟨g,p*9+7,be⟩) dv.1 (U O m.version)).setCell (p:=⟨g,p*9+8,be⟩) dv.1 (Ia m.gone))
       .rw[HJ.out,dy known m p true fm.out,if_pos rfl,Hm.out,if_pos MQ.out]
        exact mN eG.out hp m
    .have Gn:q=nl:=by omega
     subst Gn;have eG:Hid (Own w.heap.size wr u7 (dV a b (k+1))):=by
      have h:=HO.out;rw[List.take_of_length_le (by rw[lB.out];exact Ie _)] at h;rw[qv.out.step];exact h
     go_wp2_with fail;go_roundw
     case rel=>exact⟨k+1,by omega,by go_num,aO,eG⟩
     case measure=>simp[intOf];omega
  .have kV:k=2:=by omega
   subst kV;go_wp2_with fail;go_ret;exact⟨_,rfl,HO.out,aO⟩
end Sv
namespace Sv
open Go.RowKit
theorem TV(t:ByteArray)(W:World)(g:Nat)(hs:t.size<=maxLen)(hg:W.heap[g]?=AI (By #[Y t] 9 (0,0))) :
 Calls AS 190 #[J (AI ⟨g,0,be⟩) 1 1] W λe w'=>e=AT (Ia (nu t))/\w'=W:=Mh t W g hs hg
def Lq(m:aV):Bool:=[m.node,m.bf,m.name].all bl
theorem aV.aey(m:aV):m.e=if Lq m=true then(if nu m.tag=true then(if within m.addr 0 4294967295=true then(if within m.port 0 65535=true then(if within m.version 1 1000000=true then 0 else 3) else 3) else 3) else 1) else 1:=by
 unfold aV.e Lq;simp only[List.all_cons,List.all_nil,Bool.and_true];cases bl m.node<;>cases bl m.bf<;>cases bl m.name<;>cases nu m.tag<;>cases within m.addr 0 4294967295<;>cases within m.port 0 65535<;>cases within m.version 1 1000000<;>rfl
theorem Cj(m:aV)(hm:m.ok)(W:World)(g:Nat)(hg:W.heap[g]?=AI (By #[Y m.node,Y m.bf,Y m.name] 9 (0,0))) :
 Calls AS 28 #[J (AI ⟨g,0,be⟩) 3 3] W λe w'=>e=AT (Ia (Lq m))/\w'=W:=by
 refine pZ [m.node,m.bf,m.name] g 3 W (λj hj=>?_) (λj=>?_) (by simp)
 .rw[ae hg]
  have:j=0\/j=1\/j=2:=by simp at hj;omega
  rcases this with rfl|rfl|rfl<;>rfl
 .obtain⟨h1,h2,h3,h4⟩:=hm
  match j with
  |0=>exact h1
  |1=>exact h2
  |2=>exact h3
  |_+3=>simp[List.getD]
theorem gS(m:aV)(w:World)(hm:m.ok) :
 Calls AS 141 #[Ik #[Y m.node,Y m.bf,Y m.name,Y m.tag,U O m.addr,U O m.port,Ia m.af,U O m.version,Ia m.gone]] w λe w'=>e=AT (U O m.e)/\Below w.heap.size w w':=by
 have hs:m.tag.size<=maxLen:=hm.2.2.2;have hB:Hid (Below w.heap.size w ((w.alloc (By #[Y m.node,Y m.bf,Y m.name,Y m.tag,U O m.addr,U O m.port,Ia m.af,U O m.version,Ia m.gone] 38)).alloc (By #[Y m.node,Y m.bf,Y m.name] 9))):=((Ib _ _).alloc (Ie _) _).alloc (by simp) _;have hg:((w.alloc (By #[Y m.node,Y m.bf,Y m.name,Y m.tag,U O m.addr,U O m.port,Ia m.af,U O m.version,Ia m.gone] 38)).alloc (By #[Y m.node,Y m.bf,Y m.name] 9)).heap[w.heap.size+1]?=AI (By #[Y m.node,Y m.bf,Y m.name] 9 (0,0)):=by
  have h:=Ij (w.alloc (By #[Y m.node,Y m.bf,Y m.name,Y m.tag,U O m.addr,U O m.port,Ia m.af,U O m.version,Ia m.gone] 38)) (By #[Y m.node,Y m.bf,Y m.name] 9);simpa using h
 have HL:Hid (Calls AS 28 #[J (AI ⟨w.heap.size+1,0,be⟩) 3 3] ((w.alloc (By #[Y m.node,Y m.bf,Y m.name,Y m.tag,U O m.addr,U O m.port,Ia m.af,U O m.version,Ia m.gone] 38)).alloc (By #[Y m.node,Y m.bf,Y m.name] 9)) λe w'=>e=AT (Ia (Lq m))/\w'=(w.alloc (By #[Y m.node,Y m.bf,Y m.name,Y m.tag,U O m.addr,U O m.port,Ia m.af,U O m.version,Ia m.gone] 38)).alloc (By #[Y m.node,Y m.bf,Y m.name] 9)):=Cj m hm _ _ hg;clear hg;have hB3:Hid (Below w.heap.size w (((w.alloc (By #[Y m.node,Y m.bf,Y m.name,Y m.tag,U O m.addr,U O m.port,Ia m.af,U O m.version,Ia m.gone] 38)).alloc (By #[Y m.node,Y m.bf,Y m.name] 9)).alloc (By #[Y m.tag] 9))):=hB.out.alloc (by simp;omega) _;have mJ:(((w.alloc (By #[Y m.node,Y m.bf,Y m.name,Y m.tag,U O m.addr,U O m.port,Ia m.af,U O m.version,Ia m.gone] 38)).alloc (By #[Y m.node,Y m.bf,Y m.name] 9)).alloc (By #[Y m.tag] 9)).heap[w.heap.size+2]?=AI (By #[Y m.tag] 9 (0,0)):=by
  have h:=Ij ((w.alloc (By #[Y m.node,Y m.bf,Y m.name,Y m.tag,U O m.addr,U O m.port,Ia m.af,U O m.version,Ia m.gone] 38)).alloc (By #[Y m.node,Y m.bf,Y m.name] 9)) (By #[Y m.tag] 9);simpa using h
 have HT:Hid (Calls AS 190 #[J (AI ⟨w.heap.size+2,0,be⟩) 1 1] (((w.alloc (By #[Y m.node,Y m.bf,Y m.name,Y m.tag,U O m.addr,U O m.port,Ia m.af,U O m.version,Ia m.gone] 38)).alloc (By #[Y m.node,Y m.bf,Y m.name] 9)).alloc (By #[Y m.tag] 9)) λe w'=>e=AT (Ia (nu m.tag))/\w'=(((w.alloc (By #[Y m.node,Y m.bf,Y m.name,Y m.tag,U O m.addr,U O m.port,Ia m.af,U O m.version,Ia m.gone] 38)).alloc (By #[Y m.node,Y m.bf,Y m.name] 9)).alloc (By #[Y m.tag] 9))):=TV m.tag _ _ hs mJ;clear mJ;have HD:Hid (m.e=if Lq m=true then(if nu m.tag=true then(if within m.addr 0 4294967295=true then(if within m.port 0 65535=true then(if within m.version 1 1000000=true then 0 else 3) else 3) else 3) else 1) else 1):=m.aey;clear hm;rcases h1:Lq m with _|_
 .go_enter Tryz.func141,Tryz.ntmps141
  go_wp2_with (go_at_call 28;refine HL.out.mono ?_;rintro e w' ⟨rfl,rfl⟩;rw[h1]);go_ret;exact⟨an (by rw[HD.out];simp[h1]),hB.out⟩
 .rcases h2:nu m.tag with _|_
  .go_enter Tryz.func141,Tryz.ntmps141
   go_wp2_with (first|(go_at_call 28;refine HL.out.mono ?_;rintro e w' ⟨rfl,rfl⟩;rw[h1])|(go_at_call 190;refine HT.out.mono ?_;rintro e w' ⟨rfl,rfl⟩;rw[h2]));go_ret;exact⟨an (by rw[HD.out];simp[h1,h2]),hB3.out⟩
  .rcases h3:within m.addr 0 4294967295 with _|_
   .go_enter Tryz.func141,Tryz.ntmps141
    go_wp2_with (first|(go_at_call 28;refine HL.out.mono ?_;rintro e w' ⟨rfl,rfl⟩;rw[h1])|(go_at_call 190;refine HT.out.mono ?_;rintro e w' ⟨rfl,rfl⟩;rw[h2])|(go_at_call 29;refine(fp _ _).mono ?_;rintro e w' ⟨rfl,rfl⟩;rw[h3]));go_ret;exact⟨an (by rw[HD.out];simp[h1,h2,h3]),hB3.out⟩
   .rcases h4:within m.port 0 65535 with _|_
    .go_enter Tryz.func141,Tryz.ntmps141
     go_wp2_with (first|(go_at_call 28;refine HL.out.mono ?_;rintro e w' ⟨rfl,rfl⟩;rw[h1])|(go_at_call 190;refine HT.out.mono ?_;rintro e w' ⟨rfl,rfl⟩;rw[h2])|(go_at_call 29;refine(fp _ _).mono ?_;rintro e w' ⟨rfl,rfl⟩;rw[h3])|(go_at_call 51;refine(cM _ _ _ _).mono ?_;rintro e w' ⟨rfl,rfl⟩;rw[h4]));go_ret;exact⟨an (by rw[HD.out];simp[h1,h2,h3,h4]),hB3.out⟩
    .rcases h5:within m.version 1 1000000 with _|_
     all_goals
      go_enter Tryz.func141,Tryz.ntmps141;go_wp2_with (first|(go_at_call 28;refine HL.out.mono ?_;rintro e w' ⟨rfl,rfl⟩;rw[h1])|(go_at_call 190;refine HT.out.mono ?_;rintro e w' ⟨rfl,rfl⟩;rw[h2])|(go_at_call 29;refine(fp _ _).mono ?_;rintro e w' ⟨rfl,rfl⟩;rw[h3])|(go_at_call 51;refine(cM _ _ _ _).mono ?_;rintro e w' ⟨rfl,rfl⟩;first|rw[h4]|rw[h5]));go_ret;exact⟨an (by rw[HD.out];simp[h1,h2,h3,h4,h5]),hB3.out⟩
theorem jq(ms:List aV)(b off cap:Nat)(w:World)(hr:Row w b off ms)(hb:b<w.heap.size)(hn:ms.length<=40)(hs:∀j,(ms.getD j dm).ok) :
 Calls AS 98 #[J (AI ⟨b,off,be⟩) ms.length cap] w λe w'=>e=AT (U O (bp ms))/\Below w.heap.size w w':=by
 have HR:Hid (Row w b off ms):=hr;have HE:Hid (∀k,k<ms.length->(∀j,j<k->(ms.getD j dm).e=0)->(ms.getD k dm).e≠0->bp ms=(ms.getD k dm).e):=λk h1 h2 h3=>uH ms k hn h1 h2 h3;have H4:Hid ((∀j,j<ms.length->(ms.getD j dm).e=0)->bp ms=if aR ms=true then 0 else 4):=λh1=>tn ms hn h1;have Mi:Hid (∀w',Below w.heap.size w w'->Calls _ _ _ _ _):=λw' xK=>kG ms b off cap w' (hr.later xK hb) (IJ hb xK.size) hn;clear hr;generalize hN:ms.length=n at *;have HN:Hid _:=hN;clear hN;have HS:Hid _:=hs;clear hs;generalize hC:bp ms=res at *;have HC:Hid _:=hC;clear hC;generalize Mj:aR ms=rb at *;have P6:Hid _:=Mj;clear Mj;go_enter Tryz.func98,Tryz.ntmps98;go_wp2_with fail;go_loopw [11] (λi w'=>∃k:Nat,k<=n/\i=U O k/\Below w.heap.size w w'/\Hid (∀j,j<k->(ms.getD j dm).e=0)) (λi _=>n-(intOf i).toNat)
 case atStart=>exact⟨0,IF _,rfl,Ib _ _,λj h=>absurd h (Jj _)⟩
 case round=>
  obtain⟨k,hk,rfl,aO,hz⟩:=hrel;obtain⟨cK,kj⟩:=cd aO;have cB:=aO.size;by_cases aX:k<n
  .obtain⟨c0,c1,c2,c3,c4,c5,c6,c7,c8⟩:=HR.out k (by rw[HN.out];exact aX)
   have EJ:Hid _:=HS.out k;have HK:Hid ((ms.getD k dm).e≠0->res=(ms.getD k dm).e):=λh=>HE.out k aX hz.out h;have HZ:Hid ((ms.getD k dm).e=0->∀j,j<k+1->(ms.getD j dm).e=0):=λh j hj=>by
    rcases I6.1 hj with h2|rfl
    .exact hz.out j h2
    .exact h
   generalize ms.getD k dm=m at *;have HO:Hid (∀w,Calls _ _ _ _ _):=λw=>gS m w EJ.out;generalize m.e=me at *;rcases he:decide (me=0) with _|_
   .have lE:(me !=0)=true:=by simpa using he
    clear he;go_wp2_with (go_at_call 141;refine(HO.out _).mono ?_;rintro e w' ⟨rfl,aL⟩);go_ret;have aP:me≠0:=by simpa using lE
    have vd:=HK.out aP;exact⟨an vd.symm,(aO.alloc cB _).trans (aL.mono (by simp;omega))⟩
   .have lE:(me !=0)=false:=by simpa using he
    clear he;go_wp2_with (go_at_call 141;refine(HO.out _).mono ?_;rintro e w' ⟨rfl,aL⟩);go_roundw
    case rel=>
     have N8:me=0:=by simpa using lE
     exact⟨k+1,by omega,by go_num,(aO.alloc cB _).trans (aL.mono (by simp;omega)),HZ.out N8⟩
    case measure=>simp[intOf];omega
  .have ki:Hid (∀j,j<n->(ms.getD j dm).e=0):=λj hj=>hz.out j (by omega)
   have qe:Hid _:=H4.out ki.out;clear hz ki H4 HE HC P6;cases rb
   .go_wp2_with (go_at_call 142;refine(Mi.out _ aO).mono ?_;rintro e w' ⟨rfl,aL⟩)
    go_ret;exact⟨an (by rw[qe.out];rfl),aO.trans (aL.mono cB)⟩
   .go_wp2_with (go_at_call 142;refine(Mi.out _ aO).mono ?_;rintro e w' ⟨rfl,aL⟩)
    go_ret;exact⟨an (by rw[qe.out];rfl),aO.trans (aL.mono cB)⟩
theorem gX(a:Option Addr)(n cap:Nat)(w:World)(hn:40<n) :
 Calls AS 98 #[J a n cap] w λe w'=>e=AT (U O 2)/\w'=w:=by
 go_enter Tryz.func98,Tryz.ntmps98;go_wp2_with fail;go_ret;exact⟨rfl,rfl⟩
theorem gY(a:Option Addr)(cap:Nat)(w:World) :
 Calls AS 98 #[J a 0 cap] w λe w'=>e=AT (U O 0)/\w'=w:=by
 go_enter Tryz.func98,Tryz.ntmps98;go_wp2_with fail;go_loop [11] (λi=>i=U O 0) (λ_=>0)
 case atStart=>rfl
 case round=>
  subst hrel;go_wp2_with (go_at_call 142;refine(gZ _ _ _ _).mono ?_;rintro e w' ⟨rfl,rfl⟩);go_ret;exact⟨rfl,rfl⟩
theorem bD(ms:List aV)(v:Value)(w:World)(h:Sl w v ms) :
 Calls AS 98 #[v] w λe w'=>e=AT (U O (bp ms))/\Below w.heap.size w w':=by
 obtain⟨a,cap,rfl,hs,h⟩:=h;by_cases hn:40<ms.length
 .refine(gX a ms.length cap w hn).mono ?_
  rintro e w' ⟨rfl,rfl⟩;exact⟨an (by rw[bp,if_pos hn]),Ib _ _⟩
 .rcases h with rfl|⟨b,off,rfl,hb,hr⟩
  .refine(gY a cap w).mono ?_
   rintro e w' ⟨rfl,rfl⟩;exact⟨rfl,Ib _ _⟩
  .exact jq ms b off cap w hr hb (by omega) hs
theorem ec(a b:List aV)(va vb:Value)(pb cap:Nat)(w:World)(ha:Sl w va a)(hb:Sl w vb b)(hpb:pb<w.heap.size)(hc0:w.cell? ⟨pb,0,be⟩=AI va)(hc1:w.cell? ⟨pb,1,be⟩=AI vb) :
 Calls AS 156 #[J (AI ⟨pb,0,be⟩) 2 cap] w λe w'=>e=AT (U O (aY a b))/\Below w.heap.size w w':=by
 have HA:Hid (Sl w va a):=ha;have HB:Hid (Sl w vb b):=hb;clear ha hb;go_enter Tryz.func156,Tryz.ntmps156;go_wp2_with fail;go_loopw [8] (λi w'=>∃k:Nat,k<=2/\i=U O k/\Below w.heap.size w w'/\Hid (0<k->bp a=0)/\Hid (1<k->bp b=0)) (λi _=>2-(intOf i).toNat)
 case atStart=>exact⟨0,by omega,rfl,Ib _ _,λh=>by omega,λh=>by omega⟩
 case round=>
  obtain⟨k,hk,rfl,aO,dt,dD⟩:=hrel;obtain⟨cK,kj⟩:=cd aO;have cB:=aO.size;have LH:Hid (Sl wr va a):=HA.out.below aO;have LI:Hid (Sl wr vb b):=HB.out.below aO;have ib:k=0\/k=1\/k=2:=by omega
  rcases ib with rfl|rfl|rfl
  .rcases he:decide (bp a=0) with _|_
   .have lE:(bp a !=0)=true:=by simpa using he
    clear he;go_wp2_with (go_at_call 98;refine(bD a _ _ LH.out).mono ?_;rintro e w' ⟨rfl,aL⟩);go_ret;exact⟨an (by have h0:bp a≠0:=(by simpa using lE);rw[aY,if_neg h0]),aO.trans (aL.mono cB)⟩
   .have lE:(bp a !=0)=false:=by simpa using he
    clear he;go_wp2_with (go_at_call 98;refine(bD a _ _ LH.out).mono ?_;rintro e w' ⟨rfl,aL⟩);go_roundw
    case rel=>exact⟨1,by omega,by go_num,aO.trans (aL.mono cB),λ_=>(by simpa using lE),λh=>by omega⟩
    case measure=>simp[intOf]
  .have h0:Hid _:=dt.out (by omega)
   rcases he:decide (bp b=0) with _|_
   .have lE:(bp b !=0)=true:=by simpa using he
    clear he;go_wp2_with (go_at_call 98;refine(bD b _ _ LI.out).mono ?_;rintro e w' ⟨rfl,aL⟩);go_ret;exact⟨an (by rw[aY,if_pos h0.out]),aO.trans (aL.mono cB)⟩
   .have lE:(bp b !=0)=false:=by simpa using he
    clear he;go_wp2_with (go_at_call 98;refine(bD b _ _ LI.out).mono ?_;rintro e w' ⟨rfl,aL⟩);go_roundw
    case rel=>exact⟨2,by omega,by go_num,aO.trans (aL.mono cB),λ_=>h0.out,λ_=>(by simpa using lE)⟩
    case measure=>simp[intOf]
  .go_wp2_with fail
   go_ret;exact⟨an (by rw[aY,if_pos (dt.out (by omega)),dD.out (by omega)]),aO⟩
theorem ow(a b:List aV)(va vb:Value)(pb cap:Nat)(w:World)(ha:Sl w va a)(hb:Sl w vb b)(hpb:pb<w.heap.size)(hc0:w.cell? ⟨pb,0,be⟩=AI va)(hc1:w.cell? ⟨pb,1,be⟩=AI vb)(aP:aY a b≠0) :
 Calls AS 108 #[J (AI ⟨pb,0,be⟩) 2 cap] w λe w'=>e=AT (Ip #[J be 0 0,U O (aJ a b)])/\Below w.heap.size w w':=by
 have he:(aY a b !=0)=true:=by simpa using aP
 have HE:Hid (aJ a b=aY a b):=if_neg aP;have rD:=ec a b va vb pb cap w ha hb hpb hc0 hc1;have HC:Hid (Calls _ _ _ _ _):=rD;clear rD ha hb aP;go_enter Tryz.func108,Tryz.ntmps108;go_wp2_with (go_at_call 156;refine HC.out.mono ?_;rintro e w' ⟨rfl,aL⟩);go_ret2;exact⟨by rw[HE.out];rfl,aL⟩
theorem mq(a b:List aV)(va vb:Value)(pb cap:Nat)(w:World)(ha:Sl w va a)(hb:Sl w vb b)(hpb:pb<w.heap.size)(hc0:w.cell? ⟨pb,0,be⟩=AI va)(hc1:w.cell? ⟨pb,1,be⟩=AI vb)(h0:aY a b=0) :
 Calls AS 108 #[J (AI ⟨pb,0,be⟩) 2 cap] w λe w'=>∃v',e=AT (Ip #[v',U O (aJ a b)])/\Below w.heap.size w w' /\
  (40<(aB a b).length->v'=J be 0 0)/\((aB a b).length<=40->Own w.heap.size w' v' (aB a b)):=by
 have he:(aY a b !=0)=false:=by simpa using h0
 have FJ:bp a=0:=by unfold aY at h0;split at h0<;>assumption
 have VI:bp b=0:=by unfold aY at h0;rw[if_pos FJ] at h0;exact h0
 have za:=aj FJ;have zb:=aj VI;have HE:Hid (aJ a b=if 40<(aB a b).length then 2 else 0):=if_pos h0;have HC:Hid (Calls _ _ _ _ _):=ec a b va vb pb cap w ha hb hpb hc0 hc1;have HJ:Hid (∀w1,Below w.heap.size w w1->Calls AS 157 #[IQ (.func 143) #[] #[],IQ (.func 158) #[] #[],J (AI ⟨pb,0,be⟩) 2 cap] w1 λe w'=>∃v',e=AT v'/\Own w1.heap.size w' v' (aB a b)/\Below w1.heap.size w1 w'):=λw1 aC=>
  jv a b va vb pb cap w1 (ha.below aC) (hb.below aC) (IJ hpb aC.size) ((cd aC).1 pb 0 hpb |>.trans hc0) ((cd aC).1 pb 1 hpb |>.trans hc1) za.1 zb.1 za.2.1
 have GX:(aB a b).length<=80:=by have h1:=dj b a;have h2:=za.1;have h3:=zb.1;omega
 clear h0 FJ VI za zb ha hb hc0 hc1;generalize aB a b=jl at *;generalize Fw:jl.length=n at *;have N9:Hid _:=Fw;clear Fw;go_enter Tryz.func108,Tryz.ntmps108;go_wp2_with (go_at_call 156;refine HC.out.mono ?_;rintro e w1 ⟨rfl,aC⟩);refine(HJ.out w1 aC).mono ?_;rintro e w2 ⟨v',rfl,ho,aL⟩;have BU:∃p c,v'=J p n c:=by
  have hn:=N9.out;rcases ho.2 with⟨h,h0⟩|⟨g,c,cur,h,_⟩
  .exact⟨be,0,by rw[h];congr 1;omega⟩
  .exact⟨_,c,by rw[h,hn]⟩
 obtain⟨p,c,rfl⟩:=BU;have VJ:Hid _:=aC.trans (aL.mono aC.size);have eG:Hid (Own _ _ _ _):=ho.mono aC.size;clear ho aC aL HC HJ;by_cases aX:40<n
 .go_wp2_with fail
  go_ret2;refine⟨_,by rw[HE.out,if_pos aX];rfl,VJ.out,λ_=>rfl,λh=>by omega⟩
 .go_wp2_with fail
  go_ret2;refine⟨J p n c,by rw[HE.out,if_neg aX];rfl,VJ.out,λh=>by omega,λ_=>eG.out⟩
end Sv
end Go.Proofs.YtbfghimjdlpicaaGreatDoor
