import Derived.Test.YtfidhgjmifendaaGreatDoorns48
import Derived.Deep.CutBlock
set_option maxHeartbeats 25600000
set_option maxRecDepth 100000
open Go.Value renaming agg→Ij,pointer→Ie,string→Y,int→U,bool→Ia,tuple→Ik,slice→J
open Go.Proofs.Tryz renaming prog→AS,underlying9→Jb,underlying3→ID,underlying4→JU
open Option renaming some→AI,none→be
open List renaming length_set→IM,map_set→QO,mem_singleton→I8,range→Jx
open Go renaming maxLen→Il,heap_alloc_new→Ih,wpAnyH_done→QC,bodyPost_ret→IK
open Go.IntKind renaming i64→O
open Go.Ending renaming returned→AT
open Go.Obj renaming cells→By
open Array renaming getElem?_eq_some_iff→BY
open Go.Calls renaming mono→Oi
open Go.RowKit.Below renaming refl→Ib
open Nat renaming le_refl→Ic,le_trans→Ir,zero_add→IC
open Go.DataW renaming trod_string→QF,trod_int→J1
open List.cons renaming injEq→O4
namespace Go.Proofs.YtfidhgjmifendaaGreatDoor
open Go.RowKit
theorem nv.says{w w':World}{t':Nt}{e:Ending}(h:nv w False (λx=>x=t') e w'):qG w t' e w':=by
 obtain⟨hb,⟨_,_,hq,_⟩|⟨x,a,k,c,b,l,d,rfl,he,hn⟩⟩:=h
 .exact hq.elim
 .exact⟨hb,a,k,c,b,l,d,he,hn⟩
theorem CJ(t:Nt)(vn vl:Value)(v:Ev)(w:World)(j k:Nat)(hV:Rv w.heap.size w)(h:fo w t vn vl)(hr:dM t)(hk:v.kind=2)(hw:v.which=(j:Int))(hj:j<t.ns.length)(ho:v.other=(k:Int))(eV:k<t.ns.length)(h20:t.ls.length<20) :
 Calls AS 19 #[Ij #[vn,vl],Ij (A7 v)] w (qG w ⟨t.ns,t.ls++[⟨v.other,(eB (t.ns.getD j bC)).T⟩]⟩):=by
 refine(qH t False (λx=>x=⟨t.ns,t.ls++[⟨v.other,(eB (t.ns.getD j bC)).T⟩]⟩) vn vl v w hV h hr.short hr.e (λW C g nb ul L hW TH hC hN nx hP=>?_)).mono (λe w' h=>h.says);have hp:oj t v C g nb ul L W:=⟨hC,hN,nx,hP,hr⟩;obtain⟨a,c,hu,hq⟩:=hp.cells;have hl:=hp.len;have xZ:L.length<=6:=by rw[hl];exact(Nt.aN hr.e).1
 refine qF 79 #[Ie (AI ⟨g,0,be⟩)] #[] (enters_of Tryz.func79 (by kernel_rfl) rfl) g 2 (λer w'=>Below C W w'/\Hid (ik C w' g nb L v False (λx=>x=⟨t.ns,t.ls++[⟨v.other,(eB (t.ns.getD j bC)).T⟩]⟩) er)) W (by decide) rfl (by rw[<- hk];exact ae hP.hg 2) (λW2 bJ=>?_) (λW2 bJ _=>?_)
 .obtain⟨q0,q1,q2,q3,q4⟩:=hq W2 bJ
  have:=uC 2 (.inr (.inl rfl)) g L.length _ _ v.which v.other W2 q0 (by rw[<- hk];exact q2) q3 q4 xZ;rw[hw,ho,iQ (by omega),iQ (by omega)] at this;exact this
 .obtain⟨hx,qO,gR⟩:=hp.at (j:=j) (by omega)
  have h2:=hp.below bJ;refine(rZ C g nb j ul t.ls v L W2 h2.P h2.N h2.hC (by omega) hw (by omega) qO ((hV.after hW).after bJ) (λW zm zs zg zw hT hx=>oH _ _ _ _ _ W hx (.inl rfl) hT)).mono ?_;rintro e w' ⟨er,rfl,HS⟩;obtain rfl:=HS.out.2.1 h20;obtain⟨_,a,kk,c,sL⟩:=HS.out.2.2 rfl;rw[hx] at sL;exact⟨0,rfl,(bJ.mono hC).trans HS.out.1.below,⟨λh=>absurd rfl h,λ_=>⟨_,rfl,a,kk,c,L,rfl,nx,h2.N.mv HS.out.1,sL⟩⟩⟩
theorem wY(t:Nt)(vn vl:Value)(v:Ev)(w:World)(j k:Nat)(p:Pk)(hV:Rv w.heap.size w)(h:fo w t vn vl)(hr:dM t)(hk:v.kind=3)(hw:v.which=(j:Int))(hj:j<t.ls.length)(tx:ByteArray)(MA:t.ls.getD j Lt.dm=⟨(k:Int),tx⟩)(eV:k<t.ns.length)(An:uO tx.data.toList=AI p)(hh:ou (t.ns.getD k bC) p=0) :
 Calls AS 19 #[Ij #[vn,vl],Ij (A7 v)] w (qG w ⟨t.ns.set k (og (t.ns.getD k bC) p),t.ls.eraseIdx j⟩):=by
 refine(qH t False (λx=>x=⟨t.ns.set k (og (t.ns.getD k bC) p),t.ls.eraseIdx j⟩) vn vl v w hV h hr.short hr.e (λW C g nb ul L hW TH hC hN nx hP=>?_)).mono (λe w' h=>h.says);have hp:oj t v C g nb ul L W:=⟨hC,hN,nx,hP,hr⟩;obtain⟨a,c,hu,hq⟩:=hp.cells;have hl:=hp.len;have hz:=Nt.aN hr.e;refine qF 80 #[Ie (AI ⟨g,0,be⟩)] #[] (enters_of Tryz.func80 (by kernel_rfl) rfl) g 3 (λer w'=>Below C W w'/\Hid (ik C w' g nb L v False (λx=>x=⟨t.ns.set k (og (t.ns.getD k bC) p),t.ls.eraseIdx j⟩) er)) W (by decide) rfl (by rw[<- hk];exact ae hP.hg 2) (λW2 bJ=>?_) (λW2 bJ _=>?_)
 .obtain⟨q0,q1,q2,q3,q4⟩:=hq W2 bJ
  have:=yt 3 (.inl rfl) g t.ls.length _ _ v.which W2 q1 (by rw[<- hk];exact q2) q3 hz.2.1;rw[hw,iQ hj] at this;exact this
 .obtain⟨hx,qO,gR⟩:=hp.at (j:=k) (by omega)
  have h2:=hp.below bJ;have Du:=oG (ko.1 An).2;have cI:=hr.sh _ (aF hj Lt.dm);rw[MA] at cI;refine(Am C g nb j k ul t.ls v L p W2 h2.P h2.N h2.hC hz.2.1 hw hj _ tx MA rfl (by omega) An cI qO ((hV.after hW).after bJ) (λW vm vr vs vg vw zm zs zg zw hI hx=>ue _ p _ _ _ _ _ _ _ _ _ W hI hx (.inr (by have b1:=Du.sv.1;have b2:=Du.gw.1;have b3:=Du.wh.1;omega)))).mono ?_;rintro e w' ⟨rfl,aK,L',a,kk,c,dR,hN,hP⟩;rcases dR with⟨aQ,_⟩|⟨_,y,hy,rfl⟩
  .rw[hx] at aQ;exact absurd hh aQ
  .rw[hx] at hy
   exact⟨0,rfl,(bJ.mono hC).trans aK,⟨λh=>absurd rfl h,λ_=>⟨_,rfl,a,kk,c,L.set k y,IM,by rw[QO,nx,hy],hN,hP⟩⟩⟩
def Gi:Nd:=GR ⟨#[97]⟩ ⟨#[99]⟩ 1 false
def Gj:Nd:=GR ⟨#[98]⟩ ⟨#[99]⟩ 2 true
def Ax:Pk:=eB Gi
def nbC:Nd:=og Gj Ax
def ev1:Ev:=⟨2,0,1,0,⟨#[]⟩,⟨0,0,0,0,0⟩,⟨⟨#[]⟩,⟨#[]⟩,⟨#[]⟩,⟨#[]⟩,0,0,false,0,false⟩⟩
def ev2:Ev:=⟨3,0,0,0,⟨#[]⟩,⟨0,0,0,0,0⟩,⟨⟨#[]⟩,⟨#[]⟩,⟨#[]⟩,⟨#[]⟩,0,0,false,0,false⟩⟩
theorem aaB:Ns ⟨#[97]⟩ ⟨#[99]⟩ 1=0:=by kernel_rfl
theorem aaC:Ns ⟨#[98]⟩ ⟨#[99]⟩ 2=0:=by kernel_rfl
theorem Rx:(Nt.mk [Gi,Gj] []).e=0:=by kernel_rfl
theorem Ry:Ax.e=0:=by kernel_rfl
theorem TJ:Ax.B.length<=1000:=of_decide_eq_true (by kernel_rfl)
theorem agd:ou Gj Ax=0:=by kernel_rfl
theorem aaD:nbC.ms.length=2:=by kernel_rfl
theorem aaE:Ax.T.data.toList=Ax.B:=by unfold Pk.T;rw[if_pos Ry]
theorem Rz:uO Ax.T.data.toList=AI Ax:=by rw[aaE];exact ko.2 ⟨rfl,Ry⟩
theorem RA:Ax.T.data.toList.length<=1000:=by rw[aaE];exact TJ
theorem TK:kD [Gi,Gj]=0:=by kernel_rfl
theorem aaF:vE 2 ⟨1,Ax.T⟩=0:=by
 unfold vE;simp only[Rz];rfl
theorem aaG:(Nt.mk [Gi,Gj] [⟨1,Ax.T⟩]).e=0:=by
 rw[Nt.rA (by simp) TK];exact if_pos aaF
theorem bsize(s:ByteArray):s.size=s.data.toList.length:=by rw[Array.length_toList];rfl
theorem LV(nm ct:ByteArray)(ad:Int)(sv:Bool)(he:Ns nm ct ad=0)(hn:nm.size<=Il)(hc:ct.size<=Il)(W:World) :
 Calls AS 21 #[Y nm,Y ct,U O ad,Ia sv] W λe w'=>Below W.heap.size W w'/\∃a2 uR uS a3 uT uU a4 uV uW a5 uX uY a6 uZ vc,e=AT (Ik #[Ij #[Y nm,Y ct,J a2 uR uS,J a3 uT uU,J a4 uV uW,J a5 uX uY,U O 0,U O 0,U O 0,U O 0,U O 1000,J a6 uZ vc],U O 0])/\Hid (eY w' (GR nm ct ad sv) (J a2 uR uS) (J a3 uT uU) (J a4 uV uW) (J a5 uX uY) (J a6 uZ vc)):=by
 refine(sS nm ct ad sv W hn hc).mono ?_;rintro e w' ⟨hb,⟨aQ,_⟩|⟨_,aQ,_⟩|⟨_,_,um,ur,us,ug,uw,rfl,ho,hk⟩⟩
 .exact absurd he aQ
 .exact absurd rfl aQ
 .have hI:=ho.is hk
  obtain⟨x2,y2,e2⟩:=aL ho.ms;obtain⟨x3,y3,e3⟩:=aL ho.rs;obtain⟨x4,y4,e4⟩:=aL ho.sv;obtain⟨x5,y5,e5⟩:=aL ho.gw;obtain⟨x6,y6,e6⟩:=aL ho.wh;subst e2 e3 e4 e5 e6;exact⟨hb,_,_,_,_,_,_,_,_,_,_,_,_,_,_,_,rfl,hI⟩
theorem age{W:World}{b:Nat}{n m:Nd}{v1 v2 v3 v4 v5 u1 u2 u3 u4 u5:Value}(hb:W.heap[b]?=AI (By (dv n v1 v2 v3 v4 v5++dv m u1 u2 u3 u4 u5) 42 (0,0)))(hn:eY W n v1 v2 v3 v4 v5)(hm:eY W m u1 u2 u3 u4 u5):xY W (J (AI ⟨b,0,be⟩) 2 2) [n,m]:=by
 refine⟨_,_,rfl,.inr ⟨b,0,rfl,(BY.1 hb).1,λj hj=>?_⟩⟩;have hj2:j<2:=hj;rcases Nat.lt_or_ge j 1 with h1|h1
 .have:j=0:=by omega
  subst this;refine⟨_,_,_,_,_,hn,λi hi=>(ae hb _).trans ?_⟩;rw[show 0+0*12+i=i by omega,Array.getElem?_append_left (show i<(dv n v1 v2 v3 v4 v5).size from hi)];rfl
 .have:j=1:=by omega
  subst this;refine⟨_,_,_,_,_,hm,λi hi=>(ae hb _).trans ?_⟩;rw[show 0+1*12+i=12+i by omega,Array.getElem?_append_right (show(dv n v1 v2 v3 v4 v5).size<=12+i from Nat.le_add_right _ _),show 12+i-(dv n v1 v2 v3 v4 v5).size=i from Nat.add_sub_cancel_left _ _];rfl
theorem fa.fi{C:Nat}{w w':World}{t:Nt}{un ul:Value}(h:fa C w t un ul)(hk:∀b,C<=b->b<w.heap.size->w'.heap[b]?=w.heap[b]?):fa C w' t un ul:=by
 obtain⟨nb,L,h1,h2,h3,h4⟩:=h;exact⟨nb,L,h1,h2,h3.fi hk,ej hk h4⟩
theorem vL(w:World)(hV:Rv w.heap.size w) :
 Calls AS 6 #[] w λe w'=>e=AT (Ia true)/\Below w.heap.size w w':=by
 have HNA:=LV ⟨#[97]⟩ ⟨#[99]⟩ 1 false aaB (by decide) (by decide);have Mk:=LV ⟨#[98]⟩ ⟨#[99]⟩ 2 true aaC (by decide) (by decide);have aaH:Hid _:=HNA;have aaI:Hid _:=Mk;clear HNA Mk;have SN:Hid (∀W v,Below w.heap.size w W->xY W v [Gi,Gj]->Calls AS 22 #[v] W λe w'=>Below W.heap.size W w'/\∃a l c d m k,e=AT (Ik #[Ij #[J a l c,J d m k],U O 0])/\Hid (fo w' ⟨[Gi,Gj],[]⟩ (J a l c) (J d m k))):=λW v hW hv=>by
  refine(uz [Gi,Gj] v W (hV.after hW) hv).mono ?_;rintro e w' ⟨hb,⟨_,a,l,c,d,m,k,nb,L,rfl,ho⟩|⟨aQ,_⟩⟩
  .exact⟨hb,_,_,_,_,_,_,rfl,⟨ho.sl hv.ok,Lt.bF ho.ls (λm hm=>by cases hm)⟩⟩
  .exact absurd Rx aQ
 have tR:Hid (∀W a l c d m k,Below w.heap.size w W->fo W ⟨[Gi,Gj],[]⟩ (J a l c) (J d m k)->Calls AS 19 #[Ij #[J a l c,J d m k],Ij #[U O 2,U O 0,U O 1,U O 0,Y ⟨#[]⟩,U O 0,U O 0,U O 0,U O 0,U O 0,Y ⟨#[]⟩,Y ⟨#[]⟩,Y ⟨#[]⟩,Y ⟨#[]⟩,U O 0,U O 0,Ia false,U O 0,Ia false]] W λe w'=>Below W.heap.size W w'/\∃a k c b l d,e=AT (Ik #[Ij #[J a k c,J b l d],U O 0])/\Hid (fa W.heap.size w' ⟨[Gi,Gj],[⟨1,Ax.T⟩]⟩ (J a k c) (J b l d))):=λW a l c d m k hW h=>
  CJ ⟨[Gi,Gj],[]⟩ _ _ ev1 W 0 1 (hV.after hW) h ⟨Rx,λl hl=>by cases hl⟩ rfl rfl (by simp) rfl (by simp) (by simp)
 have Vq:Hid (∀W a l c d m k,Below w.heap.size w W->fo W ⟨[Gi,Gj],[⟨1,Ax.T⟩]⟩ (J a l c) (J d m k)->Calls AS 19 #[Ij #[J a l c,J d m k],Ij #[U O 3,U O 0,U O 0,U O 0,Y ⟨#[]⟩,U O 0,U O 0,U O 0,U O 0,U O 0,Y ⟨#[]⟩,Y ⟨#[]⟩,Y ⟨#[]⟩,Y ⟨#[]⟩,U O 0,U O 0,Ia false,U O 0,Ia false]] W λe w'=>Below W.heap.size W w'/\∃a k c b l d,e=AT (Ik #[Ij #[J a k c,J b l d],U O 0])/\Hid (fa W.heap.size w' ⟨[Gi,nbC],[]⟩ (J a k c) (J b l d))):=λW a l c d m k hW h=>
  wY ⟨[Gi,Gj],[⟨1,Ax.T⟩]⟩ _ _ ev2 W 0 1 Ax (hV.after hW) h ⟨aaG,λl hl=>by rw[I8.1 hl];show Ax.T.size<=16777216;rw[bsize];have:=RA;omega⟩ rfl rfl (by simp) Ax.T rfl (by simp) Rz agd
 clear hV;go_enter Tryz.func6,Tryz.ntmps6;go_wp2_with fail;refine Oi (aaH.out _) ?_;rintro e w1 ⟨aB,a2,uR,uS,a3,uT,uU,a4,uV,uW,a5,uX,uY,a6,uZ,vc,rfl,XB⟩;have ba:Hid _:=aB;clear aB aaH;obtain⟨W1,cT⟩:∃W1,W1=w1.alloc (By #[Y ⟨#[97]⟩,Y ⟨#[99]⟩,J a2 uR uS,J a3 uT uU,J a4 uV uW,J a5 uX uY,U O 0,U O 0,U O 0,U O 0,U O 1000,J a6 uZ vc] 42):=⟨_,rfl⟩;have aB:Below w1.heap.size w1 W1:=by rw[cT];exact(Ib _ _).alloc (Ic _) _
 have XC:Hid _:=XB.out.below aB;have iZ:Hid _:=ba.out.trans (aB.mono ba.out.size);have vp:Hid (W1.heap[w1.heap.size]?=AI (By #[Y ⟨#[97]⟩,Y ⟨#[99]⟩,J a2 uR uS,J a3 uT uU,J a4 uV uW,J a5 uX uY,U O 0,U O 0,U O 0,U O 0,U O 1000,J a6 uZ vc] 42 (0,0))):=by show _=_;rw[cT];exact Ih w1 _
 clear aB ba XB;go_wp2_with fail;rw[<- cT];clear cT;refine Oi (aaI.out _) ?_;rintro e w2 ⟨aK,b2,bi2,bc2,b3,bi3,bc3,b4,bi4,bc4,b5,bi5,bc5,b6,bi6,bc6,rfl,Wg⟩;have bu:Hid _:=iZ.out.trans (aK.mono iZ.out.size);have Rn:Hid _:=XC.out.below aK;have sg:Hid _:=(aK.block _ (BY.1 vp.out).1).trans vp.out;clear aK aaI XC vp iZ;obtain⟨W2,bJ⟩:∃W2,W2=w2.alloc (By #[Y ⟨#[98]⟩,Y ⟨#[99]⟩,J b2 bi2 bc2,J b3 bi3 bc3,J b4 bi4 bc4,J b5 bi5 bc5,U O 0,U O 0,U O 0,U O 0,U O 1000,J b6 bi6 bc6] 42):=⟨_,rfl⟩;have aK:Below w2.heap.size w2 W2:=by rw[bJ];exact(Ib _ _).alloc (Ic _) _
 have cO:=(aK.block _ (BY.1 sg.out).1).trans sg.out;have dS:W2.heap[w2.heap.size]?=AI (By #[Y ⟨#[98]⟩,Y ⟨#[99]⟩,J b2 bi2 bc2,J b3 bi3 bc3,J b4 bi4 bc4,J b5 bi5 bc5,U O 0,U O 0,U O 0,U O 0,U O 1000,J b6 bi6 bc6] 42 (0,0)):=by rw[bJ];exact Ih w2 _
 have XE:Hid _:=Rn.out.below aK;have Vm:Hid _:=Wg.out.below aK;have pO:Hid _:=bu.out.trans (aK.mono bu.out.size);obtain⟨p0,p1,p2,p3,p4,p5,p6,p7,p8,p9,p10,p11⟩:=bB cO;obtain⟨q0,q1,q2,q3,q4,q5,q6,q7,q8,q9,q10,q11⟩:=bB dS;clear aK cO dS Rn Wg bu sg;obtain⟨W3,eu,bX,-,lF⟩:=bY W2 #[Y ⟨#[97]⟩,Y ⟨#[99]⟩,J a2 uR uS,J a3 uT uU,J a4 uV uW,J a5 uX uY,U O 0,U O 0,U O 0,U O 0,U O 1000,J a6 uZ vc,Y ⟨#[98]⟩,Y ⟨#[99]⟩,J b2 bi2 bc2,J b3 bi3 bc3,J b4 bi4 bc4,J b5 bi5 bc5,U O 0,U O 0,U O 0,U O 0,U O 1000,J b6 bi6 bc6] 42;have pP:Hid _:=pO.out.trans (bX.mono pO.out.size);have RB:=SN.out W3 (J (AI ⟨W2.heap.size,0,be⟩) 2 2) pP.out (age lF (XE.out.below bX) (Vm.out.below bX));clear bX lF XE Vm SN;go_upto_region 3 with fail
 rw[<- bJ];clear bJ;go_wp2_with fail;rw[<- eu];clear eu p0 q0 p1 q1 p2 q2 p3 q3 p4 q4 p5 q5 p6 q6 p7 q7 p8 q8 p9 q9 p10 q10 p11 q11;refine Oi RB ?_;rintro e w4 ⟨eU,a,l,c,d,m,k,rfl,HN4⟩;have fO:Hid _:=pP.out.trans (eU.mono pP.out.size);clear eU RB pP pO;obtain⟨W4,nZ,eU,-,GX⟩:=bY w4 #[J a l c,J d m k] 27;have zl:Hid _:=fO.out.trans (eU.mono fO.out.size);have aaJ:=tR.out W4 a l c d m k zl.out (HN4.out.below eU);have x0:=ae GX 0;have x1:=ae GX 1;have Df:Hid _:=GX;have ML:Hid (w.heap.size<=w4.heap.size):=fO.out.size;clear eU GX HN4 tR fO;go_upto_region 4 with fail
 rw[<- nZ];clear nZ;go_wp2_with fail;refine Oi aaJ ?_;rintro e w5 ⟨jD,a5_,l5_,c5_,d5_,m5_,k5_,rfl,Cp⟩;have kX:w5.heap[w4.heap.size]?=AI (By #[J a l c,J d m k] 27 (0,0)):=(jD.block _ (BY.1 Df.out).1).trans Df.out;have iy:Hid _:=zl.out.trans (jD.mono zl.out.size);have Xm:=(BY.1 Df.out).1;obtain⟨W5,jo⟩:∃W5,W5=aC w4.heap.size [J a5_ l5_ c5_,J d5_ m5_ k5_] 0 w5:=⟨_,rfl⟩;have GW:W5.heap[w4.heap.size]?=AI (By #[J a5_ l5_ c5_,J d5_ m5_ k5_] 27 (0,0)):=by rw[jo];exact bA [J a5_ l5_ c5_,J d5_ m5_ k5_] [] [J a l c,J d m k] kX rfl
 have eA:∀q,q≠w4.heap.size->W5.heap[q]?=w5.heap[q]?:=λq hq=>by rw[jo];exact aV hq _ _ _
 have yq:Hid (Below w.heap.size w W5):=by show Below _ _ _;rw[jo];exact aT ML.out _ _ iy.out
 have hI5:=(Cp.out.fi (λq hq _=>eA q (by omega))).is (λl hl=>by rw[I8] at hl;subst hl;show _<=_;rw[bsize];exact Ir RA (by decide));have aaK:=Vq.out W5 _ _ _ _ _ _ yq.out hI5;have y0:=ae kX 0;have y1:=ae kX 1;have z0:=aj kX 0;have z1:=aj kX 1;have r0:=ae GW 0;have r1:=ae GW 1;have zp:Hid _:=GW;simp only[aC,IC] at jo;clear jD kX GW eA Cp hI5 Vq aaJ x0 x1 zl Df Xm iy;go_upto_region 5 with fail
 rw[<- jo];clear jo y0 y1 z0 z1;go_wp2_with fail;refine Oi aaK ?_;rintro e w6 ⟨sy,a6_,l6_,c6_,d6_,m6_,k6_,rfl,LW⟩;have DJ:=(sy.block _ (BY.1 zp.out).1).trans zp.out;have pD:Hid _:=yq.out.trans (sy.mono yq.out.size);have TM:=(BY.1 zp.out).1;obtain⟨W6,qu⟩:∃W6,W6=aC w4.heap.size [J a6_ l6_ c6_,J d6_ m6_ k6_] 0 w6:=⟨_,rfl⟩;have RC:W6.heap[w4.heap.size]?=AI (By #[J a6_ l6_ c6_,J d6_ m6_ k6_] 27 (0,0)):=by rw[qu];exact bA [J a6_ l6_ c6_,J d6_ m6_ k6_] [] [J a5_ l5_ c5_,J d5_ m5_ k5_] DJ rfl
 have eA:∀q,q≠w4.heap.size->W6.heap[q]?=w6.heap[q]?:=λq hq=>by rw[qu];exact aV hq _ _ _
 have agt:Hid (Below w.heap.size w W6):=by show Below _ _ _;rw[qu];exact aT ML.out _ _ pD.out
 obtain⟨nb,L,Tl,nx,hN,hls⟩:=LW.out.fi (w':=W6) (λq hq _=>eA q (by omega));have hLl:L.length=2:=by have:=congrArg List.length nx;simpa using this
 rw[hLl] at Tl;obtain⟨a7,c7,Mj⟩:=aL hls;have hxn:(L.getD 1 bZ).n=nbC:=uD nx (j:=1) (by omega);have gQ:=(hN.own _ (gv (j:=1) (by omega))).ms;rw[hxn] at gQ;obtain⟨a8,c8,od⟩:=aL gQ;rw[aaD] at od;have fW:W6.cell? ⟨nb,14,be⟩=AI (J a8 2 c8):=by
  have h:=hN.cell (j:=1) (by omega) 2 (by omega);rw[<- od];exact h
 have y0:=ae DJ 0;have y1:=ae DJ 1;have z0:=aj DJ 0;have z1:=aj DJ 1;have s0:W6.cell? ⟨w4.heap.size,0,be⟩=AI (J (AI ⟨nb,0,be⟩) 2 2):=by rw[<- Tl];exact ae RC 0
 have s1:W6.cell? ⟨w4.heap.size,1,be⟩=AI (J a7 0 c7):=by have h:W6.cell? ⟨w4.heap.size,1,be⟩=AI (J d6_ m6_ k6_):=ae RC 1;rw[Mj] at h;exact h
 simp only[aC,IC] at qu;clear sy DJ RC eA LW aaK r0 r1 yq zp TM pD Tl nx hN hls hLl Mj hxn gQ od ML;go_upto_region 6 with fail
 rw[<- qu];clear qu y0 y1 z0 z1;go_wp2_with fail;go_ret;exact⟨rfl,agt.out⟩
def MB:Ev:=⟨0,0,0,0,⟨#[]⟩,⟨0,0,0,0,0⟩,⟨⟨#[]⟩,⟨#[]⟩,⟨#[]⟩,⟨#[]⟩,0,0,false,0,false⟩⟩
structure Gk(w:World)(a:Option Addr)(l:List Ev):Prop where
 ok:∀v∈l,v.Ok
 row:∀k,k<l.length->∃G off,a=AI ⟨G,off,be⟩/\w.rangeAt G (off+k*19) (A7 (l.getD k MB)).toList
theorem vM{P:Program}{a:Act}{o:Oper}{W:World}(ty:TypeId)(x:Operand)(ho:o.op=.load ty x)(b off:Nat)(hx:a.eval x=Ie (AI ⟨b,off,be⟩))(cs:List Value)(d:TypeDesc)(hc:W.rangeAt b off cs)(hu:P.underlying ty=AI d)(hd:d.isRow=true)(hi:(P.info? ty).map (·.size)=AI cs.length):(execOp a.eval o).run P W=.ok (.value (Ij cs.toArray)) W:=by
 unfold execOp;simp only[ho,hx,run_loadAt_mid W b off ty cs d hc hu hd hi,Sem.run_bind,Sem.run_pure,Result.andThen_ok]
theorem sd{w W:World}{b off:Nat}{cs:List Value}(h:w.rangeAt b off cs)(hb:Below w.heap.size w W):W.rangeAt b off cs:=λi v hi=>by
 have h1:=h i v hi;exact(hb.cell (World.block_lt_of_cell? w _ h1)).trans h1
theorem nB{C:Nat}{w:World}{t:Nt}{un ul:Value}(h:fa C w t un ul)(hr:dM t):fo w t un ul:=h.is (λl hl=>by
 have:=hr.sh l hl;show _<=Il;unfold Il;omega)
theorem Inv.is{w wr:World}{t:Nt}{un ul:Value}{C:Nat}(h:fo w t un ul\/fa C wr t un ul)(hr:dM t)(hb:Below w.heap.size w wr):fo wr t un ul:=h.elim (·.below hb) (nB · hr)
theorem fa.mono{A C:Nat}{w:World}{t:Nt}{un ul:Value}(h:fa C w t un ul)(hA:A<=C):fa A w t un ul:=by
 obtain⟨nb,L,h1,h2,h3,h4⟩:=h;exact⟨nb,L,h1,h2,h3.mono hA,Lt.Own.mono h4 hA⟩
theorem Pm(kf:Nat)(eg:∀args w,(callFunc kf args).run AS w=.ok (.enter kf args) w)(l:List Ev)(la:Option Addr)(lc:Nat)(t0:Nt)(vn vl:Value)(w:World)(hV:Rv w.heap.size w)(hl:Gk w la l)(u:World)(hu:Below u.heap.size u w)(h:fo u t0 vn vl)(I:Nat->Nt->Prop)(hr:dM t0/\I 0 t0)(hM:∀k t,I k t->I (k+1) t)(hI:∀k t t',dM t->vK t t'->I k t->LH t t'->I (k+1) t')(KV:l.length<=Il)(hIs:∀W t t' a1 n1 c1 d1 l1 q1 a2 n2 c2 d2 l2 q2,Below w.heap.size w W->fo W t (J a1 n1 c1) (J d1 l1 q1)->fo W t' (J a2 n2 c2) (J d2 l2 q2)->dM t->vK t t'->Calls AS kf #[Ij #[J a1 n1 c1,J d1 l1 q1],Ij #[J a2 n2 c2,J d2 l2 q2]] W λe w'=>e=AT (Ia true)/\Below W.heap.size W w') :
 Calls AS 9 #[Ij #[vn,vl],J la l.length lc,.func (.func kf) #[] #[]] w λe w'=>Below w.heap.size w w'/\∃t a k c b m d,e=AT (Ik #[Ij #[J a k c,J b m d],Ia true])/\Hid ((fo u t (J a k c) (J b m d)\/fa (w.heap.size+2) w' t (J a k c) (J b m d))/\(dM t/\∃i,i<=40/\I i t)/\t.ns.length=t0.ns.length):=by
 have HV:Hid _:=hV;have mC:Hid _:=hIs;have Dr:Hid _:=hI;have HMO:Hid _:=hM;have HU:Hid (∀W,Below w.heap.size w W->Below u.heap.size u W):=λW hW=>hu.trans (hW.mono hu.size);have WH:Hid (∀k,k<l.length->∃G off,la=AI ⟨G,off,be⟩/\(l.getD k MB).Ok/\∀W,Below w.heap.size w W->W.rangeAt G (off+k*19) (A7 (l.getD k MB)).toList):=λk hk=>by
  obtain⟨G,off,e,hg⟩:=hl.row k hk;exact⟨G,off,e,hl.ok _ (aF hk MB),λW hW=>sd hg hW⟩
 obtain⟨⟨pn,cn,Fg,_⟩,⟨pl,cl,kB,_,_⟩⟩:=id h;subst Fg kB;generalize Vg:t0.ns.length=n0 at *;generalize Dd:t0.ls.length=m0 at *;obtain⟨W0,bN⟩:∃W0,W0=(w.alloc (By #[J pn n0 cn,J pl m0 cl] 27)).alloc (By #[J be 0 0,J be 0 0] 27):=⟨_,rfl⟩;have bO:Below w.heap.size w W0:=by rw[bN];exact((Ib _ _).alloc (Ic _) _).alloc (by simp) _
 have HI0:Hid (W0.heap[w.heap.size]?=AI (By #[J pn n0 cn,J pl m0 cl] 27 (0,0))/\W0.heap[w.heap.size+1]?=AI (By #[J be 0 0,J be 0 0] 27 (0,0))/\(fo u t0 (J pn n0 cn) (J pl m0 cl)\/fa (w.heap.size+2) W0 t0 (J pn n0 cn) (J pl m0 cl))/\(dM t0/\I 0 t0/\0<=40)/\t0.ns.length=n0/\Below w.heap.size w W0):=by
  refine⟨?_,?_,.inl h,⟨hr.1,hr.2,by omega⟩,Vg,bO⟩
  .rw[bN];exact(Lib.alloc_old _ _ _ (by simp)).trans (Ih w _)
  .rw[bN]
   have:=Ih (w.alloc (By #[J pn n0 cn,J pl m0 cl] 27)) (By #[J be 0 0,J be 0 0] 27);simpa using this
 have TI:(l.length:Int)<=9223372036854775807:=by unfold Il at KV;omega
 clear hV hIs hI hM hu hl h hr bO Vg Dd KV;generalize hnn:l.length=n at *;go_enter Tryz.func9,Tryz.ntmps9;go_wp2_with fail;rw[<- bN];clear bN;go_loopw [8] (λi wr=>∃(k n1 c1 l1 q1:Nat) (a1 d1:Option Addr) (t:Nt),k<=n/\i=U O k/\Hid (wr.heap[w.heap.size]?=AI (By #[J a1 n1 c1,J d1 l1 q1] 27 (0,0))/\wr.heap[w.heap.size+1]?=AI (By #[J be 0 0,J be 0 0] 27 (0,0))/\(fo u t (J a1 n1 c1) (J d1 l1 q1)\/fa (w.heap.size+2) wr t (J a1 n1 c1) (J d1 l1 q1))/\(dM t/\I k t/\k<=40)/\t.ns.length=n0/\Below w.heap.size w wr)) (λi _=>n-(intOf i).toNat)
 case atStart=>exact⟨0,n0,cn,m0,cl,pn,pl,t0,Nat.zero_le _,rfl,HI0⟩
 case round=>
  obtain⟨k,n1,c1,l1,q1,a1,d1,t,hk,rfl,HR⟩:=hrel;by_cases aX:k<n/\k<40
  .have hd:=decide_eq_true (by omega)
   have agv:decide ((k:Int)<40)=true:=decide_eq_true (by omega);obtain⟨G,off,kC,hvo,hrg⟩:=WH.out k aX.1;subst kC;have DK:Hid (∀W,Below wr.heap.size wr W->Calls AS 19 #[Ij #[J a1 n1 c1,J d1 l1 q1],Ij (A7 (l.getD k MB))] W λe w'=>Below W.heap.size W w'/\∃a2 n2 c2 d2 l2 q2 er,e=AT (Ik #[Ij #[J a2 n2 c2,J d2 l2 q2],U O er])/\Hid (er=0->∃t',LH t t'/\fa W.heap.size w' t' (J a2 n2 c2) (J d2 l2 q2))):=λW hW=>by
    obtain⟨_,_,i3,i4,_,i6⟩:=HR.out;refine(LQ t _ _ (l.getD k MB) W (HV.out.after (i6.trans (hW.mono i6.size))) ((Inv.is i3 i4.1 (HU.out _ i6)).below hW) i4.1 hvo).mono ?_;rintro e w' ⟨hb,⟨er,aQ,_,rfl⟩|⟨t',a2,n2,c2,d2,l2,q2,hx,rfl,hN⟩⟩
    .exact⟨hb,_,_,_,_,_,_,er,rfl,λhz=>absurd hz aQ⟩
    .exact⟨hb,_,_,_,_,_,_,0,rfl,λ_=>⟨t',hx,hN⟩⟩
   have Pn:Hid (∀W,Below wr.heap.size wr W->W.heap[w.heap.size]?=AI (By #[J a1 n1 c1,J d1 l1 q1] 27 (0,0))/\W.rangeAt G (off+k*19) (A7 (l.getD k MB)).toList):=λW hW=>by
    obtain⟨i1,_,_,_,_,i6⟩:=HR.out;exact⟨(hW.block _ (BY.1 i1).1).trans i1,hrg W (i6.trans (hW.mono i6.size))⟩
   have xL:(k:Int)<(n:Int):=by omega
   have jn:¬ (k:Int)<0:=by omega
   have jJ:(0:Int)<=(k:Int):=by omega
   have jY:((k:Int)).toNat=k:=by omega
   have Tc:Hid (k<n):=aX.1;have LX:Hid (k+1<=40):=aX.2;clear hrg hvo aX;generalize l.getD k MB=v at *;go_upto_region 4 with fail
   go_cut [9,10] from 11 to 38 (λp9 e10 wx=>∃(B9 n2 c2 l2 q2:Nat) (a2 d2:Option Addr) (er:Int),p9=Ie (AI ⟨B9,0,be⟩)/\e10=U O er/\Hid (wx.heap[B9]?=AI (By #[J a2 n2 c2,J d2 l2 q2] 27 (0,0))/\wr.heap.size<=B9)/\Hid ((er=0->∃t',LH t t'/\fa wr.heap.size wx t' (J a2 n2 c2) (J d2 l2 q2))/\Below wr.heap.size wr wx))
   case first=>
    clear HR WH mC Dr HMO LX HU Tc HV;refine wp_region_held_drew (S:=λW=>W.heap[w.heap.size]?=AI (By #[J a1 n1 c1,J d1 l1 q1] 27 (0,0))/\W.rangeAt G (off+k*19) (A7 v).toList) (by kernel_rfl) (Pn.out _ (Ib _ _).drew) (λbU=>?_);refine cd 0 (v:=Ij #[J a1 n1 c1,J d1 l1 q1]) ?_ (hy:=Or.inl ⟨by rfl,λW Ml=>ox 27 (.tmp 3) rfl w.heap.size rfl 27 #[J a1 n1 c1,J d1 l1 q1] (0,0) _ Ml.1 Tryz.underlying27 rfl (by kernel_rfl)⟩);refine cd 1 (v:=J (AI ⟨G,off,be⟩) n lc) ?_;refine cd 2 (v:=U O (k:Int)) ?_;refine cd 3 (v:=Ie (AI ⟨G,off+k*19,be⟩)) ?_;refine cd 4 (v:=Ij (A7 v)) ?_ (hy:=Or.inl ⟨by rfl,λW Ml=>vM 59 (.tmp 25) rfl G (off+k*19) rfl (A7 v).toList _ Ml.2 Tryz.underlying59 rfl (by kernel_rfl)⟩);refine wpAnyH_ready (rs:=[5,9]) (by kernel_rfl) (by simp) ?_;refine AllReadyH.cons rfl (λK hK=>?_) (AllReadyH.cons rfl (λK hK=>?_) AllReadyH.nil)
    .have HK:Hid _:=hK
     clear hK;go_simp;refine Oi (DK.out _ (Ib _ _).drew) ?_;rintro e w5 ⟨jD,a2,n2,c2,d2,l2,q2,er,rfl,Cp⟩;have iy:Hid _:=(Ib wr.heap.size wr).drew.trans jD;clear jD DK;refine HK.out _ _ (Pn.out w5 iy.out) (λbU=>?_);clear HK K;refine cd 6 (v:=Ik #[Ij #[J a2 n2 c2,J d2 l2 q2],U O er]) ?_;refine cd 7 (v:=Ij #[J a2 n2 c2,J d2 l2 q2]) ?_;refine cd 8 (v:=U O er) ?_;refine cz 9 (λK hK=>?_);have HK:Hid _:=hK;clear hK;go_simp;have pD:Hid (Below wr.heap.size wr (w5.alloc (By #[J be 0 0,J be 0 0] 27))):=iy.out.alloc iy.out.size _;refine HK.out _ _ (Pn.out _ pD.out) (λbU=>?_);clear HK K;refine cz 10 (λK hK=>?_);have HK:Hid _:=hK;clear hK;go_simp;have yN:Hid (Below wr.heap.size wr (w5.alloc (By #[J a2 n2 c2,J d2 l2 q2] 27))):=iy.out.alloc iy.out.size _;refine HK.out _ _ (Pn.out _ yN.out) (λbU=>?_);clear HK K;refine cd 11 (v:=U O er) ?_;refine QC (by kernel_rfl) ?_ _;clear bU;go_wp2_with fail;go_meet
     case rel=>exact⟨w5.heap.size,n2,c2,l2,q2,a2,d2,er,rfl,rfl,⟨Ih w5 _,iy.out.size⟩,⟨λhz=>by
      obtain⟨t',hx,hN⟩:=Cp.out hz;exact⟨t',hx,hN.fi (λb _ hb=>((Ib w5.heap.size w5).alloc (Ic _) _).block b hb)⟩,yN.out⟩⟩
    .have HK:Hid _:=hK
     clear hK;go_simp;have pD:Hid (Below wr.heap.size wr ((wr.alloc (By #[J be 0 0,J be 0 0] 27)).drew)):=((Ib wr.heap.size wr).alloc (Ic _) _).drew;have DJ:((wr.alloc (By #[J be 0 0,J be 0 0] 27)).drew).heap[wr.heap.size]?=AI (By #[J be 0 0,J be 0 0] 27 (0,0)):=Ih wr _;have hs6:((wr.alloc (By #[J be 0 0,J be 0 0] 27)).drew).heap.size=wr.heap.size+1:=by simp
     refine HK.out _ _ (Pn.out _ pD.out) (λbU=>?_);clear HK K;generalize(wr.alloc (By #[J be 0 0,J be 0 0] 27)).drew=W6b at *;have HS6:Hid _:=hs6;clear hs6;refine cz 5 (λK hK=>?_);have HK:Hid _:=hK;clear hK;go_simp;refine Oi (DK.out _ pD.out) ?_;rintro e w5 ⟨jD,a2,n2,c2,d2,l2,q2,er,rfl,Cp⟩;have iy:Hid _:=pD.out.trans (jD.mono pD.out.size);have kX:=(jD.block _ (BY.1 DJ).1).trans DJ;clear jD DK DJ;refine HK.out _ _ (Pn.out w5 iy.out) (λbU=>?_);clear HK K;refine cd 6 (v:=Ik #[Ij #[J a2 n2 c2,J d2 l2 q2],U O er]) ?_;refine cd 7 (v:=Ij #[J a2 n2 c2,J d2 l2 q2]) ?_;refine cd 8 (v:=U O er) ?_;obtain⟨W7,ER⟩:∃W7,W7=aC wr.heap.size [J a2 n2 c2,J d2 l2 q2] 0 w5:=⟨_,rfl⟩;have Nh:Hid (W7.heap[wr.heap.size]?=AI (By #[J a2 n2 c2,J d2 l2 q2] 27 (0,0))):=by show _=_;rw[ER];exact bA [J a2 n2 c2,J d2 l2 q2] [] [J be 0 0,J be 0 0] kX rfl
     have VG:Hid ((er=0->∃t',LH t t'/\fa wr.heap.size W7 t' (J a2 n2 c2) (J d2 l2 q2))/\Below wr.heap.size wr W7):=by
      refine⟨λhz=>?_,by rw[ER];exact aT (Ic _) _ _ iy.out⟩;obtain⟨t',hx,nb7,L7,e1,e2,e3,e4⟩:=Cp.out hz;have hle:=HS6.out;have rj:∀b,W6b.heap.size<=b->b<w5.heap.size->W7.heap[b]?=w5.heap[b]?:=λb hb _=>by rw[ER];exact aV (by omega) _ _ _
      exact⟨t',hx,nb7,L7,e1,e2,(e3.fi rj).mono (by omega),Lt.Own.mono (ej rj e4) (by omega)⟩
     have g0:=ae kX 0;have g1:=ae kX 1;have f0:=aj kX 0;have f1:=aj kX 1;clear kX;refine cz 10 (λK hK=>?_);have HK:Hid _:=hK;clear hK;go_simp;simp only[aC,IC] at ER;rw[<- ER];clear ER g0 g1 f0 f1;refine HK.out _ _ (Pn.out _ VG.out.2) (λbU=>?_);clear HK K;refine cd 11 (v:=U O er) ?_;refine QC (by kernel_rfl) ?_ _;clear bU;go_wp2_with fail;go_meet
     case rel=>exact⟨wr.heap.size,n2,c2,l2,q2,a2,d2,er,rfl,rfl,⟨Nh.out,Ic _⟩,VG.out⟩
   case rest=>
    obtain⟨B9,n2,c2,l2,q2,a2,d2,er,rfl,rfl,H9,Po⟩:=hcut;have Du:IntKind.i64.wrap ((k:Int)+1)=(k:Int)+1:=by rw[IntKind.wrap_i64];omega
    by_cases her:er=0
    .subst her
     obtain⟨t',hx,hN⟩:=Po.out.1 rfl;have uM:=Po.out.2;obtain⟨i1,i2,i3,i4,i5,i6⟩:=HR.out;have i7:=Inv.is i3 i4.1 (HU.out _ i6);have yJ:=uG i4.1 i7.ns.ok hx;have hi':=Dr.out k t t' i4.1 yJ i4.2.1 hx;have Ca:=(BY.1 i2).1;have HC:=mC.out wc t t' a1 n1 c1 d1 l1 q1 a2 n2 c2 d2 l2 q2 (i6.trans (uM.mono i6.size)) (i7.below uM) (nB hN yJ.right) i4.1 yJ;have kX:=(uM.block _ (by omega)).trans i1;have ju:=(uM.block _ Ca).trans i2;have y0:=ae H9.out.1 0;have y1:=ae H9.out.1 1;have g0:=ae kX 0;have g1:=ae kX 1;have HG:Hid (∀W,Below wc.heap.size wc W->W.heap[B9]?=AI (By #[J a2 n2 c2,J d2 l2 q2] 27 (0,0))/\W.heap[w.heap.size]?=AI (By #[J a1 n1 c1,J d1 l1 q1] 27 (0,0))/\W.heap[w.heap.size+1]?=AI (By #[J be 0 0,J be 0 0] 27 (0,0))/\B9≠w.heap.size/\Below w.heap.size w W/\∀W8,W8=aC w.heap.size [J a2 n2 c2,J d2 l2 q2] 0 W->W8.heap[w.heap.size]?=AI (By #[J a2 n2 c2,J d2 l2 q2] 27 (0,0))/\W8.heap[w.heap.size+1]?=AI (By #[J be 0 0,J be 0 0] 27 (0,0))/\(fo u t' (J a2 n2 c2) (J d2 l2 q2)\/fa (w.heap.size+2) W8 t' (J a2 n2 c2) (J d2 l2 q2))/\(dM t'/\I (k+1) t'/\k+1<=40)/\t'.ns.length=n0/\Below w.heap.size w W8):=λW hW=>by
      have k1:=(hW.block B9 (BY.1 H9.out.1).1).trans H9.out.1;have k2:=(hW.block _ (BY.1 kX).1).trans kX;have k3:=(hW.block _ (BY.1 ju).1).trans ju;have k4:=(i6.trans (uM.mono i6.size)).trans (hW.mono (Ir i6.size uM.size));have hle:=H9.out.2;refine⟨k1,k2,k3,by omega,k4,λW8 e8=>?_⟩;have eA:∀q,q≠w.heap.size->W8.heap[q]?=W.heap[q]?:=λq hq=>by rw[e8];exact aV hq _ _ _
      refine⟨by rw[e8];exact bA [J a2 n2 c2,J d2 l2 q2] [] [J a1 n1 c1,J d1 l1 q1] k2 rfl,(eA _ (by omega)).trans k3,?_,⟨yJ.right,hi',LX.out⟩,yJ.len.trans i5,by rw[e8];exact aT (Ic _) _ _ k4⟩;exact .inr (((hN.fi (λb _ hb=>hW.block b hb)).fi (λb hb _=>eA b (by omega))).mono (by omega))
     clear hN uM i1 i2 i3 i4 i5 i6 i7 hi' LX yJ Ca kX ju hx Po H9 HR DK Pn;go_wp2_with fail;refine HC.mono ?_;rintro e w6 ⟨rfl,sy⟩;obtain⟨j1,j2,j3,j4,j5,j6⟩:=HG.out w6 sy;clear y0 y1 g0 g1 HC;have y0:=ae j1 0;have y1:=ae j1 1;have g0:=ae j2 0;have g1:=ae j2 1;have f0:=aj j2 0;have f1:=aj j2 1;obtain⟨W8,DW⟩:∃W8,W8=aC w.heap.size [J a2 n2 c2,J d2 l2 q2] 0 w6:=⟨_,rfl⟩;have HR8:=j6 W8 DW;have agw:Hid _:=HR8;clear HR8 j1 j2 j3 j5 j6 HG sy;go_wp2_with fail;simp only[aC,IC] at DW;rw[<- DW];clear DW y0 y1 g0 g1 f0 f1;go_roundw
     case rel=>exact⟨k+1,n2,c2,l2,q2,a2,d2,t',by have:=Tc.out;omega,by go_num,agw⟩
     case measure=>simp[intOf];have:=Tc.out;omega
    .have hd2:(er==0)=false:=by simpa using her
     have hd3:(er !=0)=true:=by simpa using her
     have HR8:Hid (wc.heap[w.heap.size]?=AI (By #[J a1 n1 c1,J d1 l1 q1] 27 (0,0))/\wc.heap[w.heap.size+1]?=AI (By #[J be 0 0,J be 0 0] 27 (0,0))/\(fo u t (J a1 n1 c1) (J d1 l1 q1)\/fa (w.heap.size+2) wc t (J a1 n1 c1) (J d1 l1 q1))/\(dM t/\I (k+1) t/\k+1<=40)/\t.ns.length=n0/\Below w.heap.size w wc):=by
      obtain⟨i1,i2,i3,i4,i5,i6⟩:=HR.out;have uM:=Po.out.2;exact⟨(uM.block _ (BY.1 i1).1).trans i1,(uM.block _ (BY.1 i2).1).trans i2,i3.imp id (λh=>h.fi (λb _ hb=>uM.block b hb)),⟨i4.1,HMO.out _ _ i4.2.1,LX.out⟩,i5,i6.trans (uM.mono i6.size)⟩
     clear HR Po H9 DK Pn her LX;go_wp2_with fail;go_roundw
     case rel=>exact⟨k+1,n1,c1,l1,q1,a1,d1,t,by have:=Tc.out;omega,by go_num,HR8⟩
     case measure=>simp[intOf];have:=Tc.out;omega
  .have hdd:(k:Int)<(n:Int)->¬ (k:Int)<40:=λh1 h2=>aX ⟨by omega,by omega⟩
   obtain⟨i1,i2,i3,i4,i5,i6⟩:=HR.out;have x0:=ae i1 0;have x1:=ae i1 1;have g0:=ae i2 0;have g1:=ae i2 1;have f0:=aj i2 0;have f1:=aj i2 1;obtain⟨W8,DW⟩:∃W8,W8=aC (w.heap.size+1) [J a1 n1 c1,J d1 l1 q1] 0 wr:=⟨_,rfl⟩;have Vo:W8.heap[w.heap.size+1]?=AI (By #[J a1 n1 c1,J d1 l1 q1] 27 (0,0)):=by rw[DW];exact bA [J a1 n1 c1,J d1 l1 q1] [] [J be 0 0,J be 0 0] i2 rfl
   have gZ:Hid (Below w.heap.size w W8/\(fo u t (J a1 n1 c1) (J d1 l1 q1)\/fa (w.heap.size+2) W8 t (J a1 n1 c1) (J d1 l1 q1))/\(dM t/\∃i,i<=40/\I i t)/\t.ns.length=n0):=by
    have My:Below w.heap.size w W8:=by rw[DW];exact aT (by omega) _ _ i6
    exact⟨My,i3.imp id (λi3=>i3.fi (λb hb _=>by rw[DW];exact aV (by omega) _ _ _)),⟨i4.1,k,i4.2.2,i4.2.1⟩,i5⟩
   have q0:=ae Vo 0;have q1':=ae Vo 1;clear HR WH mC Dr HMO HU HV i1 i2 i3 i4 i5 i6 Vo;by_cases eV:k<n
   .have hd:=decide_eq_true (by omega)
    have agv:=decide_eq_false (hdd (by omega));clear hdd aX;go_wp2_with fail;simp only[aC,IC] at DW;rw[<- DW];clear DW x0 x1 g0 g1 f0 f1;exact IK (v:=Ik #[Ij #[J a1 n1 c1,J d1 l1 q1],Ia true]) (by simp[results,Tryz.results9,go_sem,q0,q1']) rfl ⟨gZ.out.1,t,_,_,_,_,_,_,rfl,gZ.out.2⟩
   .have hd:=decide_eq_false (by omega)
    clear hdd aX;go_wp2_with fail;simp only[aC,IC] at DW;rw[<- DW];clear DW x0 x1 g0 g1 f0 f1;exact IK (v:=Ik #[Ij #[J a1 n1 c1,J d1 l1 q1],Ia true]) (by simp[results,Tryz.results9,go_sem,q0,q1']) rfl ⟨gZ.out.1,t,_,_,_,_,_,_,rfl,gZ.out.2⟩
def Tld(t:Nt)(j k:Nat)(x:Nt):Prop:=∃l rest,fj (t.ns.getD j bC) l rest/\x=⟨t.ns.set j { t.ns.getD j bC with rs:=rest },t.ls++[⟨((k:Nat):Int),(kx (t.ns.getD j bC).name l).T⟩]⟩
theorem Gl(t:Nt)(vn vl:Value)(v:Ev)(w:World)(j k:Nat)(hV:Rv w.heap.size w)(h:fo w t vn vl)(hr:dM t)(hk:v.kind=1)(hw:v.which=(j:Int))(hj:j<t.ns.length)(ho:v.other=(k:Int))(eV:k<t.ns.length)(h20:t.ls.length<20) :
 Calls AS 19 #[Ij #[vn,vl],Ij (A7 v)] w (nv w False (Tld t j k)):=by
 refine qH t False (Tld t j k) vn vl v w hV h hr.short hr.e (λW C g nb ul L hW TH hC hN nx hP=>?_);have hp:oj t v C g nb ul L W:=⟨hC,hN,nx,hP,hr⟩;obtain⟨a,c,hu,hq⟩:=hp.cells;have hl:=hp.len;have xZ:L.length<=6:=by rw[hl];exact(Nt.aN hr.e).1
 refine qF 78 #[Ie (AI ⟨g,0,be⟩)] #[] (enters_of Tryz.func78 (by kernel_rfl) rfl) g 1 (λer w'=>Below C W w'/\Hid (ik C w' g nb L v False (Tld t j k) er)) W (by decide) rfl (by rw[<- hk];exact ae hP.hg 2) (λW2 bJ=>?_) (λW2 bJ _=>?_)
 .obtain⟨q0,q1,q2,q3,q4⟩:=hq W2 bJ
  have:=uC 1 (.inl rfl) g L.length _ _ v.which v.other W2 q0 (by rw[<- hk];exact q2) q3 q4 xZ;rw[hw,ho,iQ (by omega),iQ (by omega)] at this;exact this
 .obtain⟨hx,qO,gR⟩:=hp.at (j:=j) (by omega)
  have h2:=hp.below bJ;refine(Ak C g nb j ul t.ls v L W2 h2.P h2.N h2.hC (by omega) hw (by omega) qO (λV Al=>(hV.after ((hW.trans (bJ.mono hW.size)).trans (Al.mono TH))).Vf)).mono ?_;rintro e w' ⟨er,rfl,aK,hz,HS⟩;obtain rfl:=hz h20;obtain⟨_,y,a,kk,c,l,rest,ht,hy,P1,sL⟩:=HS rfl;rw[hx] at ht hy sL;rw[ho] at sL;exact⟨0,rfl,(bJ.mono hC).trans aK,⟨λh=>absurd rfl h,λ_=>⟨_,⟨l,rest,ht,rfl⟩,a,kk,c,L.set j y,IM,by rw[QO,nx,hy],P1,sL⟩⟩⟩
end Go.Proofs.YtfidhgjmifendaaGreatDoor
namespace Go.Proofs.YtfidhgjmifendaaGreatDoor
namespace Sv
open Go.ChangeShapes Go.WideShapes Go.ChangeAt Go.RowKit
section
variable {H:Type} {enc:TypeId × Value→H} {w:World} {base:Nat} {spare:Nat→Bool} {held:Bool}
theorem Tryz.kcT:Tryz.prog.cellsOf 46=9:=by kernel_rfl
theorem Tryz.kc9:Tryz.prog.cellsOf 9=1:=by kernel_rfl
theorem Tryz.Pp:Tryz.prog.cellsOf 3=1:=by kernel_rfl
theorem Tryz.kc4:Tryz.prog.cellsOf 4=1:=by kernel_rfl
theorem Ay{fuel:Nat}{cs:List Value}{x:DataW H×List MemPlace}(h:DataW.trod enc AS w base spare held fuel 46 cs=AI x) :
 ∃m:aY,cs=[Y m.node,Y m.bP,Y m.name,Y m.tag,U O m.addr,U O m.port,Ia m.an,U O m.version,Ia m.gone]/\(m).ok:=by
 obtain⟨xs,n,_,_,hl,hlen,hf⟩:=DataW.trod_struct Tryz.underlying46 h;rw[Tryz.kcT] at hl
 match cs,hl with
 |[c0,c1,c2,c3,c4,c5,c6,c7,c8],_=>
  match xs,hlen with
  |[y0,y1,y2,y3,y4,y5,y6,y7,y8],_=>
   have h0:=hf 0 _ rfl;have h1:=hf 1 _ rfl;have h2:=hf 2 _ rfl;have h3:=hf 3 _ rfl;have h4:=hf 4 _ rfl;have h5:=hf 5 _ rfl;have h6:=hf 6 _ rfl;have h7:=hf 7 _ rfl;have h8:=hf 8 _ rfl;simp[Tryz.kc9] at h0;simp[Tryz.kc9] at h1;simp[Tryz.kc9] at h2;simp[Tryz.kc9] at h3;simp[Tryz.Pp] at h4;simp[Tryz.Pp] at h5;simp[Tryz.kc4] at h6;simp[Tryz.Pp] at h7;simp[Tryz.kc4] at h8;obtain⟨z0,e0,_,g0⟩:=QF Jb h0;obtain⟨z1,e1,_,g1⟩:=QF Jb h1;obtain⟨z2,e2,_,g2⟩:=QF Jb h2;obtain⟨z3,e3,_,g3⟩:=QF Jb h3;obtain⟨z4,e4,_⟩:=J1 ID h4;obtain⟨z5,e5,_⟩:=J1 ID h5;obtain⟨z6,e6,_⟩:=DataW.trod_bool JU h6;obtain⟨z7,e7,_⟩:=J1 ID h7;obtain⟨z8,e8,_⟩:=DataW.trod_bool JU h8;simp only[O4,and_true] at e0 e1 e2 e3 e4 e5 e6 e7 e8;subst e0 e1 e2 e3 e4 e5 e6 e7 e8;exact⟨⟨z0,z1,z2,z3,z4,z5,z6,z7,z8⟩,rfl,⟨g0,g1,g2,g3⟩⟩
end
end Sv
namespace Wh
open Go.ChangeShapes Go.WideShapes Go.ChangeAt Go.RowKit
section
variable {H:Type} {enc:TypeId × Value→H} {w:World} {base:Nat} {spare:Nat→Bool} {held:Bool}
theorem Tryz.Pp:Tryz.prog.cellsOf 3=1:=by kernel_rfl
theorem kcP:Tryz.prog.cellsOf 39=5:=by kernel_rfl
theorem Az{fuel:Nat}{cs:List Value}{x:DataW H×List MemPlace}(h:DataW.trod enc AS w base spare held fuel 39 cs=AI x) :
 ∃a b c d e:Int,cs=[U O a,U O b,U O c,U O d,U O e]:=by
 obtain⟨xs,n,_,_,hl,hlen,hf⟩:=DataW.trod_struct Tryz.underlying39 h;rw[kcP] at hl
 match cs,hl with
 |[c0,c1,c2,c3,c4],_=>
  match xs,hlen with
  |[y0,y1,y2,y3,y4],_=>
   have h0:=hf 0 _ rfl;have h1:=hf 1 _ rfl;have h2:=hf 2 _ rfl;have h3:=hf 3 _ rfl;have h4:=hf 4 _ rfl;simp[Tryz.Pp] at h0;simp[Tryz.Pp] at h1;simp[Tryz.Pp] at h2;simp[Tryz.Pp] at h3;simp[Tryz.Pp] at h4;obtain⟨a,e0,_,_⟩:=J1 ID h0;obtain⟨b,e1,_,_⟩:=J1 ID h1;obtain⟨c,e2,_,_⟩:=J1 ID h2;obtain⟨d,e3,_,_⟩:=J1 ID h3;obtain⟨e,e4,_,_⟩:=J1 ID h4;simp only[O4,and_true] at e0 e1 e2 e3 e4;subst e0 e1 e2 e3 e4;exact⟨a,b,c,d,e,rfl⟩
end
end Wh
end Go.Proofs.YtfidhgjmifendaaGreatDoor
namespace Go.Proofs.YtfidhgjmifendaaGreatDoor
open Go.ChangeShapes Go.WideShapes Go.ChangeAt Go.RowKit
section
variable {H:Type} {enc:TypeId × Value→H} {w:World} {base:Nat} {spare:Nat→Bool} {held:Bool}
theorem Tryz.kcE:Tryz.prog.cellsOf 59=19:=by kernel_rfl
theorem Tryz.agy:Tryz.prog.cellsOf 46=9:=by kernel_rfl
theorem Tryz.Pr:Tryz.prog.cellsOf 3=1:=by kernel_rfl
theorem Tryz.agz:Tryz.prog.cellsOf 9=1:=by kernel_rfl
theorem CK{fuel:Nat}{cs:List Value}{x:DataW H×List MemPlace}(h:DataW.trod enc AS w base spare held fuel 59 cs=AI x) :
 ∃v:Ev,cs=(A7 v).toList/\v.Ok:=by
 obtain⟨xs,n,_,_,hl,hlen,hf⟩:=DataW.trod_struct Tryz.underlying59 h;rw[Tryz.kcE] at hl
 match cs,hl with
 |[c0,c1,c2,c3,c4,c5,c6,c7,c8,c9,c10,c11,c12,c13,c14,c15,c16,c17,c18],_=>
  match xs,hlen with
  |[y0,y1,y2,y3,y4,y5,y6],_=>
   have h0:=hf 0 _ rfl;have h1:=hf 1 _ rfl;have h2:=hf 2 _ rfl;have h3:=hf 3 _ rfl;have h4:=hf 4 _ rfl;have h5:=hf 5 _ rfl;have h6:=hf 6 _ rfl;simp[Tryz.Pr] at h0;simp[Tryz.Pr] at h1;simp[Tryz.Pr] at h2;simp[Tryz.Pr] at h3;simp[Tryz.agz] at h4;simp[Wh.kcP] at h5;simp[Tryz.agy] at h6;obtain⟨i0,e0,_,w0⟩:=J1 ID h0;obtain⟨i1,e1,_,_⟩:=J1 ID h1;obtain⟨i2,e2,_,_⟩:=J1 ID h2;obtain⟨i3,e3,_,_⟩:=J1 ID h3;obtain⟨s,e4,_,w4⟩:=QF Jb h4;obtain⟨a,b,c,d,e,e5⟩:=Wh.Az h5;obtain⟨sv,e6,w6⟩:=Sv.Ay h6;simp only[O4,and_true] at e0 e1 e2 e3 e4 e5 e6;obtain⟨r1,r2,r3,r4,r5⟩:=e5;obtain⟨q1,q2,q3,q4,q5,q6,q7,q8,q9⟩:=e6;subst e0 e1 e2 e3 e4 r1 r2 r3 r4 r5 q1 q2 q3 q4 q5 q6 q7 q8 q9;exact⟨⟨i0,i1,i2,i3,s,⟨a,b,c,d,e⟩,sv⟩,rfl,w0,w4,w6⟩
theorem yT{r:Reach}{b0:Nat}{v:Value}{d:DataW H}{p:List MemPlace}(hv:Value.okWide AS w r b0 22 v)(h:DataW.Trod enc AS w base spare held 22 v d p) :
 ∃(l:List Ev) (a:Option Addr) (c:Nat),v=J a l.length c/\Gk w a l/\l.length<=Il:=by
 obtain⟨a,len,cap,rfl⟩:=okWide_slice Tryz.underlying22 hv;obtain⟨fuel,hf⟩:=h;rcases Go.Deep.open_slice Tryz.underlying22 hf with⟨cf,_⟩|⟨x,anG,anH,m,n,D,Pl,cf,hb,hl,hm,Hb,_,hx⟩
 .simp only[Value.cells,O4,and_true,Value.slice.injEq] at cf
  obtain⟨rfl,rfl,rfl⟩:=cf;exact⟨[],be,0,rfl,⟨λv hv=>(by cases hv),λk hk=>absurd hk (by simp)⟩,by simp⟩
 .simp only[Value.cells,O4,and_true,Value.slice.injEq] at cf
  obtain⟨rfl,rfl,rfl⟩:=cf;have TI:len<=m:=by rw[Hb];split<;>omega
  have kK:∀i,i<len->∃q:Ev,q.Ok/\∀t,t<19->w.cell? (x.add (i*19+t))=(A7 q).toList[t]?:=λi hi=>by
   obtain⟨cs',h1,h2⟩:=hx i (by omega);obtain⟨q,hq,hs⟩:=CK h2;rw[Tryz.kcE] at h1;obtain⟨_,_,h3⟩:=World.cells?_some h1;refine⟨q,hs,λt ht=>?_⟩;rw[<- Go.Deep.add_add,h3 t ht,hq]
  have ae1:Inhabited Ev:=⟨MB⟩;obtain⟨F,hF⟩:=Go.Deep.choose_lt (α:=Ev) (p:=λi q=>q.Ok/\∀t,t<19->w.cell? (x.add (i*19+t))=(A7 q).toList[t]?) kK;have kQ:∀j,j<len->((Jx len).map F).getD j MB=F j:=λj hj=>by simp[List.getD,hj]
  refine⟨(Jx len).map F,AI x,cap,by simp,⟨λv hv=>?_,λk hk=>?_⟩,by simp;omega⟩
  .obtain⟨j,hj,rfl⟩:=List.mem_map.1 hv
   exact(hF j (List.mem_range.1 hj)).1
  .have NA:k<len:=by simpa using hk
   obtain⟨b,off,spot⟩:=x;have hc0:=(hF 0 (by omega)).2 0 (by omega);have aaM:spot=be:=by simpa[Addr.add] using World.cell?_spot hc0
   subst aaM;refine⟨b,off,rfl,λi v hi=>?_⟩;rw[kQ k NA] at hi;have hi2:=(List.getElem?_eq_some_iff.1 hi).1;have:=(hF k NA).2 i hi2;rw[Go.WideShapes.add_plain,<- Nat.add_assoc,hi] at this;exact this
end
end Go.Proofs.YtfidhgjmifendaaGreatDoor
