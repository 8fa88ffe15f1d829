import Derived.Test.YtipbebleapjcjaaGreatDoornc3
set_option maxHeartbeats 3200000
set_option maxRecDepth 100000
open Array renaming getElem?_eq_some_iff->Ig
open ByteArray renaming size->JN,size_append->Om
open Go renaming cell_regrown->Im,redrawn->IG,wp_region_quiet_below->IX
open Go.IntKind renaming i64->J
open Go.Sort renaming grow->Is
open Go.Value renaming bool->Ic,int->O,slice->sh,string->I
open Nat renaming lt_of_lt_of_le->Ix
namespace Go.Proofs.YtipbebleapjcjaaGreatDoor
open Go.RowKit
abbrev axI(n:Int)(k:Nat)(B:ByteArray):Prop:=∀W,rI 148 #[O J n,O J k] W (I B)
theorem Df(n:Int)(k:Nat)(h:0<=n:=by omega)(h2:n<=9223372036854775807:=by omega)(h3:k<=8:=by omega):Hid (axI n k (nX n k)):=λW=>A9 n k W h h2 h3
abbrev axJ(s B:ByteArray):Prop:=∀W,rI 149 #[I s] W (I B)
theorem amY{s:ByteArray}(h:nS s=0):Hid (axJ s (Ha s)):=λW=>Hb s W h
theorem Re(n:Int)(k:Nat)(h:k<=8:=by omega):(nX n k).size<=8:=by rw[qd];exact h
theorem Bh{P:Prop}(h:P:=by
 have hgX:=(tB.out.block _ (Ig.1 hgX).1).trans hgX;have HGX:Hid _:=(tB.out.block _ (Ix Rm hXs)).trans HGX.out;have vh:Hid _:=vh.out.trans (tB.out.mono (Nat.le_trans od hXs));have hXs:=Nat.le_trans hXs tB.out.size;clear tB;have HZN:=Df Z.size 2;have HR5:Hid (S++(A1++A2++P4++A4++nX Z.size 2++Z)=HD++tV (rs.take (k+1))):=(show _=_ by rw[<- aeA.out,HRB.out,HDE.out,HS.out]);have z5:=Re Z.size 2;generalize nX Z.size 2=A5 at *;have y1:¬ 9223372036854775807<A1.size+A2.size:=by omega
 have y2:¬ 9223372036854775807<A1.size+A2.size+P4.size:=by omega
 have y3:¬ 9223372036854775807<A1.size+A2.size+P4.size+A4.size:=by omega
 have y4:¬ 9223372036854775807<A1.size+A2.size+P4.size+A4.size+A5.size:=by omega
 have y5:¬ 9223372036854775807<A1.size+A2.size+P4.size+A4.size+A5.size+Z.size:=by omega
 have y6:¬ 9223372036854775807<S.size+(A1.size+A2.size+P4.size+A4.size+A5.size+Z.size):=by omega
 go_wp2_with fail;have F0:=λd os=>Im (d:=d) (os:=os) (fi hgX 0);have F1:=λd os=>Im (d:=d) (os:=os) (fi hgX 1);have F2:=λd os=>Im (d:=d) (os:=os) (fi hgX 2);refine IX (by kernel_rfl) (by kernel_rfl) ?_;repeat(quiet_step (fail))
 quiet_step (exact GA Mx.out w2 _ _)
 repeat(quiet_step (fail))
 quiet_step (exact GA AB.out w2 _ _)
 repeat(quiet_step (fail))
 quiet_step (exact GA H4.out w2 _ _)
 repeat(quiet_step (fail))
 quiet_step (exact GA HA4.out w2 _ _)
 repeat(quiet_step (fail))
 quiet_step (exact GA HZN.out w2 _ _)
 repeat(quiet_step (fail))
 refine oK λdq yx tB=>?_;clear F0 F1 F2;generalize Is (IG w2 dq) yx=wz at *;have HBF:Hid _:=vh.out.trans (tB.out.mono (Nat.le_trans od hXs));have HGF:Hid _:=(tB.out.block _ (Ix Rm hXs)).trans HGX.out;clear tB;go_wp2_with fail;exact⟨⟨k+1,by omega,by rw[HR5.out],by go_num,HBF,HGF⟩,by simp[intOf];omega⟩):P:=h
theorem Rf(id code mQ:Int)(fa ft:Bool)(name:ByteArray)(rs:List Rc.Rec)(v:Value)(w:World)(hc:nx id code mQ name rs=0)(hv:Rc.Sl w v rs) :
 rI 88 #[.agg #[O J id,Ic fa,Ic ft,O J code,I name,O J mQ,v]] w (I (ze id code mQ fa ft name rs.length++tV rs)):=by
 obtain⟨pa,cap,rfl,tR,pO⟩:=hv;have Ed:Hid (rs=[]\/∃b off,pa=some ⟨b,off,none⟩/\b<w.heap.size/\Rc.Row w b off rs):=pO;obtain⟨f1,f2,f3⟩:=oM hc;obtain⟨⟨e1,e2⟩,⟨e3,e4⟩,e5,e6⟩:=afH hc;have uU:0<=CF fa ft/\CF fa ft<=130:=by cases fa<;>cases ft<;>decide
 have H1:=Df id 2;have H2:=Df (CF fa ft) 1;have H3:=Df code 1;have H4:=Df 1 2;have H5:=Df rs.length 2;have H6:=Df 0 4;have H7:=amY f2;have H8:=Df mQ 2;have H9:=H4;have s1:(nX id 2).size=2:=qd _ _;have s2:(nX (CF fa ft) 1).size=1:=qd _ _;have s3:(nX code 1).size=1:=qd _ _;have s4:(nX 1 2).size=2:=qd _ _;have s5:(nX rs.length 2).size=2:=qd _ _;have s6:(nX 0 4).size=4:=qd _ _;have s7:=Gx f2;have s8:(nX mQ 2).size=2:=qd _ _;have HHD:Hid (ze id code mQ fa ft name rs.length=nX id 2++nX (CF fa ft) 1++nX code 1++nX 1 2++nX rs.length 2++nX 0 4++Ha name++nX mQ 2++nX 1 2):=rfl;have amZ:Hid (∀k,k<rs.length->(ze id code mQ fa ft name rs.length++tV (rs.take k))++afF (rs.getD k Rc.dm)=ze id code mQ fa ft name rs.length++tV (rs.take (k+1))):=λk h=>Vt _ rs k h;have HSZ:Hid (∀k,(ze id code mQ fa ft name rs.length++tV (rs.take k)).size<=100000):=λk=>by
  have h:=Gv (rs.take k) λx hx=>f3 x (List.mem_of_mem_take hx);rw[Bg,Lib.byteCells_length,List.length_take] at h;have h2:(tV (rs.take k)).size=((rs.take k).flatMap zd).length:=by simp[tV,JN]
  have h3:(ze id code mQ fa ft name rs.length).size<=1000:=by
   unfold ze;simp only[Om,qd];omega
  rw[Om];omega
 have HCR:Hid (∀k,k<rs.length->nT (rs.getD k Rc.dm)=0):=λk hk=>f3 _ (by simp[List.getD,List.getElem?_eq_getElem hk]);obtain⟨P4,hP4⟩:∃P4,P4=nX 1 2:=⟨_,rfl⟩;have H4V:Hid (nX 1 2=P4):=hP4.symm;obtain⟨P6,hP6⟩:∃P6,P6=nX 0 4:=⟨_,rfl⟩;have H6V:Hid (nX 0 4=P6):=hP6.symm;rw[<- hP4] at H4 H9 s4 HHD;rw[<- hP6] at H6 s6 HHD;clear hP4 hP6;clear tR pO f2 e1 e2 e3 e4 e5 e6 hc uU;generalize ze id code mQ fa ft name rs.length=HD at *;generalize hln:rs.length=n at *;have HLN:Hid (rs.length=n):=hln;clear hln;generalize nX id 2=X1 at *;generalize nX (CF fa ft) 1=X2 at *;generalize nX code 1=X3 at *;generalize nX n 2=X5 at *;generalize Ha name=X7 at *;generalize nX mQ 2=X8 at *;obtain⟨X9,hX9⟩:∃X9,X9=P4:=⟨_,rfl⟩;rw[<- hX9] at H9;have s9:X9.size=2:=by rw[hX9];exact s4
 have HX9:Hid (X9=P4):=hX9;clear hX9;have z1:¬ 9223372036854775807<12+X7.size:=by omega
 have z2:¬ 9223372036854775807<12+X7.size+2:=by omega
 have z3:¬ 9223372036854775807<12+X7.size+2+2:=by omega
 have z4:¬ 9223372036854775807<12+X7.size+4:=by omega
 obtain⟨w0,qu,-,-,pS⟩:=pL w #[O J id,Ic fa,Ic ft,O J code,I name,O J mQ,sh pa n cap] 63;have pN:Hid (Below w.heap.size w w0):=(show Below _ _ _ by rw[qu];exact(Below.refl _ _).alloc (Nat.le_refl _) _);have HF:Hid (CF fa ft=(if fa then 128 else 0)+(if ft then 2 else 0)):=rfl;go_enter Tryz.func88,Tryz.ntmps88;go_wp2_with fail;all_goals
  rw[‹fa=_›,‹ft=_›] at qu ⊢;rw[<- qu];clear qu;have h2:∀n,CF fa ft=n->RgC 148 #[O J n,O J 1] w0 (I X2):=λn h=>by rw[<- h];exact GA H2.out w0
  have F0:=λd os=>Im (d:=d) (os:=os) (fi pS 0);have F3:=λd os=>Im (d:=d) (os:=os) (fi pS 3);have F4:=λd os=>Im (d:=d) (os:=os) (fi pS 4);have F5:=λd os=>Im (d:=d) (os:=os) (fi pS 5);have F6:=λd os=>Im (d:=d) (os:=os) (fi pS 6);refine IX (by kernel_rfl) (by kernel_rfl) ?_;repeat(quiet_step (fail))
  quiet_step (exact GA H1.out w0 _ _)
  repeat(quiet_step (fail))
  quiet_step (exact h2 _ (HF.out.trans (by rw[‹fa=_›,‹ft=_›];rfl)) _ _)
  repeat(quiet_step (fail))
  quiet_step (exact GA H3.out w0 _ _)
  repeat(quiet_step (fail))
  quiet_step (exact GA H4.out w0 _ _)
  repeat(quiet_step (fail))
  quiet_step (exact GA H5.out w0 _ _)
  repeat(quiet_step (fail))
  quiet_step (exact GA H6.out w0 _ _)
  repeat(quiet_step (fail))
  quiet_step (exact GA H7.out w0 _ _)
  repeat(quiet_step (fail))
  quiet_step (exact GA H8.out w0 _ _)
  repeat(quiet_step (fail))
  quiet_step (exact GA H9.out w0 _ _)
  repeat(quiet_step (fail))
  refine oK λdq yx tB=>?_;clear F0 F3 F4 F5 F6 h2;generalize Is (IG w0 dq) yx=w1 at *;go_wp2_with fail;have vF:Hid (w1.heap[w.heap.size]?=some (.cells #[O J id,Ic fa,Ic ft,O J code,I name,O J mQ,sh pa n cap] 63 (0,0))):=(tB.out.block _ (Ig.1 pS).1).trans pS;have mY:Hid (Below w.heap.size w w1):=pN.out.trans (tB.out.mono pN.out.size);clear pS tB pN H1 H2 H3 H5 H7 H8 s1 s2 s3 s4 s5 s6 s8 s9 z1 z2 z3 z4;go_loopw [4,5] (λsv iv wr=>∃k:Nat,k<=n/\sv=I (HD++tV (rs.take k))/\iv=O J k/\Hid (Below w.heap.size w wr)/\Hid (wr.heap[w.heap.size]?=some (.cells #[O J id,Ic fa,Ic ft,O J code,I name,O J mQ,sh pa n cap] 63 (0,0)))) (λ_ iv _=>n-(intOf iv).toNat)
  case atStart=>exact⟨0,Nat.zero_le _,by rw[HHD.out,HX9.out];exact congrArg Value.string (aiw _).symm,rfl,mY,vF⟩
  case round=>
   obtain⟨k,hk,rfl,rfl,qQ,xu⟩:=hrel;have od:=qQ.out.size;have g6:wr.cell? ⟨w.heap.size,6,none⟩=some (sh pa n cap):=fi xu.out 6;have Rm:w.heap.size<wr.heap.size:=(Ig.1 xu.out).1;by_cases mS:k<n
   .obtain⟨b,off,Tn,Al,hr⟩:∃b off,pa=some ⟨b,off,none⟩/\b<w.heap.size/\Rc.Row w b off rs:=by
     rcases Ed.out with h|h
     .have:=HLN.out;rw[h] at this;simp at this;omega
     .exact h
    subst Tn;obtain⟨c0,c1,c2,c3,c4,c5,c6⟩:=(hr k (by rw[HLN.out];exact mS)).eq (λo=>qQ.out.cell (p:=⟨b,o,none⟩) Al);clear hr;have aeA:Hid _:=amZ.out k mS;have hss:=HSZ.out k;have hcr:=HCR.out k mS;generalize rs.getD k Rc.dm=r at *;obtain⟨n1,n2,n3,n4⟩:=tK hcr;obtain⟨⟨m1,m2⟩,⟨m3,m4⟩,m5,m6⟩:=afI hcr;have Mx:=amY n1;have SJ:r.mQ=1\/r.mQ=16\/r.mQ=33:=by
     have h:=n2;simp only[qS,Bool.or_eq_true,decide_eq_true_eq,or_assoc] at h;exact h
    have AB:=Df r.mQ 2;have HA4:=Df r.nH 4;have N8:=Df r.addr 4;have BU:=Df r.text.size 1;have EB:=Df r.port 2;have HNT:=amY n4;have HRB:Hid (afF r=Ha r.name++nX r.mQ 2++P4++nX r.nH 4++nX (Dc r).size 2++Dc r):=(show _=_ by rw[<- H4V.out];rfl);have a1:=Gx n1;have a2:=Re r.mQ 2;have a3:P4.size<=8:=by rw[<- H4V.out];exact Re 1 2
    have a4:=Re r.nH 4;have tz:=Gx n4;have b4:=Re r.addr 4;have b1:=Re r.text.size 1;have b2:=Re r.port 2;have b0:P6.size<=8:=by rw[<- H6V.out];exact Re 0 4
    have uC:Hid (r.mQ=1->Dc r=nX r.addr 4):=λh=>by unfold Dc;rw[if_pos h]
    have xK:Hid (r.mQ=16->Dc r=nX r.text.size 1++r.text):=λh=>by unfold Dc;rw[if_neg (by omega),if_pos h]
    have Wn:Hid (r.mQ=33->Dc r=P6++nX r.port 2++Ha r.target):=λh=>by rw[<- H6V.out];unfold Dc;rw[if_neg (by omega),if_neg (by omega),if_pos h]
    generalize Dc r=DB at *;obtain⟨S,hS⟩:∃S,S=HD++tV (rs.take k):=⟨_,rfl⟩;rw[<- hS] at hss ⊢;have HS:Hid _:=hS;clear hS n1 n2 n4 m1 m2 m3 m4 m5 m6 hcr;generalize Ha r.name=A1 at *;generalize nX r.mQ 2=A2 at *;generalize nX r.nH 4=A4 at *;generalize Ha r.target=U3 at *;generalize nX r.port 2=U2 at *;generalize nX r.text.size 1=Y at *;generalize nX r.addr 4=Z at *;have hd:decide ((k:Int)<(n:Int))=true:=by simp;omega
    have qg:(0:Int)<=(k:Int):=by omega
    have XC:(k:Int)<(n:Int):=by omega
    have GM:((k:Int)).toNat=k:=by omega
    obtain⟨wx,WU,-,-,hgX⟩:=pL wr #[I r.name,O J r.mQ,O J r.nH,O J r.addr,I r.text,O J r.port,I r.target] 104;have vh:Hid (Below w.heap.size w wx):=(show Below _ _ _ by rw[WU];exact qQ.out.alloc od _);have HGX:Hid _:=(show wx.heap[w.heap.size]?=wr.heap[w.heap.size]? by rw[WU];exact Lib.alloc_old wr _ _ Rm).trans xu.out;have hXs:wr.heap.size<=wx.heap.size:=by rw[WU];simp
    rcases SJ with ht|ht|ht
    .have t1:(r.mQ==1)=true:=by rw[ht];rfl
     have HDE:Hid _:=uC.out ht;have zz:Z.size<=300:=by omega
     clear ht uC xK Wn;go_wp2_with fail;rw[<- WU];clear WU c0 c1 c2 c3 c4 c5 c6 g6;refine(N8.out _).mono ?_;rintro e w2 ⟨rfl,mZ⟩;have tB:Hid _:=mZ;clear mZ;exact Bh
    .have t1:(r.mQ==1)=false:=by rw[ht];rfl
     have t2:(r.mQ==16)=true:=by rw[ht];rfl
     have HDE:Hid _:=xK.out ht;have y0:¬ 9223372036854775807<Y.size+r.text.size:=by omega
     clear ht uC xK Wn;go_wp2_with fail;rw[<- WU];clear WU c0 c1 c2 c3 c4 c5 c6 g6;have F4:=λd os=>Im (d:=d) (os:=os) (fi hgX 4);refine IX (by kernel_rfl) (by kernel_rfl) ?_;repeat(quiet_step (fail))
     quiet_step (exact GA BU.out wx _ _)
     repeat(quiet_step (fail))
     refine oK λdq yx tB=>?_;clear F4;generalize Is (IG wx dq) yx=w2 at *;have zz:(Y++r.text).size<=300:=by rw[Om];omega
     generalize Y++r.text=Z at *;exact Bh
    .have t1:(r.mQ==1)=false:=by rw[ht];rfl
     have t2:(r.mQ==16)=false:=by rw[ht];rfl
     have t3:(r.mQ==33)=true:=by rw[ht];rfl
     have HDE:Hid _:=Wn.out ht;have y0:¬ 9223372036854775807<P6.size+U2.size:=by omega
     have y9:¬ 9223372036854775807<P6.size+U2.size+U3.size:=by omega
     clear ht uC xK Wn;go_wp2_with fail;rw[<- WU];clear WU c0 c1 c2 c3 c4 c5 c6 g6;have F5:=λd os=>Im (d:=d) (os:=os) (fi hgX 5);have F6:=λd os=>Im (d:=d) (os:=os) (fi hgX 6);refine IX (by kernel_rfl) (by kernel_rfl) ?_;repeat(quiet_step (fail))
     quiet_step (exact GA H6.out wx _ _)
     repeat(quiet_step (fail))
     quiet_step (exact GA EB.out wx _ _)
     repeat(quiet_step (fail))
     quiet_step (exact GA HNT.out wx _ _)
     repeat(quiet_step (fail))
     refine oK λdq yx tB=>?_;clear F5 F6;generalize Is (IG wx dq) yx=w2 at *;have zz:(P6++U2++U3).size<=300:=by rw[Om,Om];omega
     generalize P6++U2++U3=Z at *;exact Bh
   .have tp:k=n:=by omega
    have HF:Hid (HD++tV (rs.take k)=HD++tV rs):=(show _=_ by rw[tp,<- HLN.out,List.take_length]);have hd:decide ((k:Int)<(n:Int))=false:=by simp;omega
    clear tp;go_wp2_with fail;go_ret;exact⟨by rw[<- HF.out];rfl,qQ.out⟩
theorem L8(id code mQ:Int)(mX cut:Bool)(name:ByteArray)(rs:List Rc.Rec)(v:Value)(w:World)(hc:nx id code mQ name rs=0)(hv:Rc.Sl w v rs) :
 rI 88 #[.agg #[O J id,Ic mX,Ic cut,O J code,I name,O J mQ,v]] w (I ⟨(yW id code mQ mX cut name rs).toArray⟩):=by
 rw[<- aiv];exact Rf id code mQ mX cut name rs v w hc hv
end Go.Proofs.YtipbebleapjcjaaGreatDoor
