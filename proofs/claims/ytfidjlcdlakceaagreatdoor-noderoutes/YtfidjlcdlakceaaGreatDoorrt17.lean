import Derived.Test.YtfidjlcdlakceaaGreatDoorrt16
set_option maxHeartbeats 1600000
set_option maxRecDepth 100000
open Go.Proofs.Tryz renaming prog→be
open Go.Value renaming string→I,agg→Ip,int→O,bool→AT,slice→U,pointer→Ig,tuple→Il,ownBlock→I2,func→I7
open Go.Ending renaming returned→sh
open Go.IntKind renaming i64→J
open Go.Obj renaming cells→AI
open Option renaming some→Z,none→Y
open Go renaming heap_alloc_new→Ie,wpAnyH_take→IV,bodyPost→Ji,maxLen→Ii,callFunc→OR
open Go.RowKit.Below renaming refl→Ia
open Nat renaming le_refl→By,zero_le→IF,le_trans→Ir,lt_of_lt_of_le→Iu,le_of_lt→J4
open Array renaming getElem?_eq_some_iff→Ib
open Go.AllReadyH renaming cons→QT,nil→Q0
open List renaming getD→Io,getElem?_eq_getElem→Ic,length_append→Ij,append_assoc→Jf,mem_cons_self→JJ,mem_cons_of_mem→Oh,flatMap_cons→OH,mem_of_mem_take→JV,length_take→IA
open Go.Lib renaming strCells→Of,byteCells→I1,byteCells_length→OW,alloc_old→I0
open Go.World renaming ownsRow_nil→Jj,frozen?→Ih
open ByteArray renaming size→JP
namespace Go.Proofs.YtfidjlcdlakceaaGreatDoor
open Go.RowKit
def qS(r:Rc.Rec):Bool:=(decide (r.al=1)||decide (r.addr=0))&&((decide (r.al=16)||decide (r.text.size=0))&&(decide (r.al=33)||(decide (r.port=0)&&decide (r.target.size=0))))
def bC(r:Rc.Rec):Int:=
 if bQ r.name≠0 then bQ r.name
 else if gZ r.al=false then 7
 else if within r.aE 0 2147483647=false then 3
 else if qS r=false then 1
 else if(within r.addr 0 4294967295&&within r.port 0 65535)=false then 3
 else if 200<r.text.size then 2
 else bQ r.target
theorem ve(r:Rc.Rec):(iE r).name=r.name:=by unfold iE;split;rfl;split;rfl;split<;>rfl
theorem xY(r:Rc.Rec):(iE r).al=r.al:=by unfold iE;split;rfl;split;rfl;split<;>rfl
theorem sD(r:Rc.Rec):(iE r).aE=r.aE:=by unfold iE;split;rfl;split;rfl;split<;>rfl
theorem rH(s:ByteArray):s=⟨#[]⟩↔s.size=0:=⟨λh=>by rw[h];rfl,cx⟩
theorem Kz(r:Rc.Rec):Rc.jH r (iE r)=qS r:=by
 rw[Bool.eq_iff_iff,Rc.lW];obtain⟨name,al,aE,addr,text,port,target⟩:=r;unfold iE qS;simp only;by_cases h1:al=1
 .subst h1;simp[rH]
 rw[if_neg h1];by_cases h2:al=16
 .subst h2;simp[rH]
 rw[if_neg h2];by_cases h3:al=33
 .subst h3;simp[rH]
 rw[if_neg h3];simp[h1,h2,h3,rH]
theorem qT(r:Rc.Rec)(w:World)(hr:r.ok) :
 Calls be 73 #[ln r] w λe w'=>e=dC (bC r)/\Below w.heap.size w w':=by
 have HN:Hid (∀W,Calls be 71 #[I r.name] W λe w'=>e=dC (bQ r.name)/\Below W.heap.size W w'):=λW=>jx _ _ hr.1;have HT:Hid (∀W,Calls be 71 #[I r.target] W λe w'=>e=dC (bQ r.target)/\Below W.heap.size W w'):=λW=>jx _ _ hr.2.2;have HO:Hid (∀W,Calls be 123 #[ln r] W λe w'=>e=sh (Ip #[I r.name,O J r.al,O J r.aE,O J (iE r).addr,I (iE r).text,O J (iE r).port,I (iE r).target])/\Below W.heap.size W w'):=λW=>by
  have h:=uk r W;unfold ln at h;rw[ve,xY,sD] at h;exact h
 generalize hE:bC r=E;unfold bC at hE;go_enter Tryz.func73,Tryz.ntmps73;go_wp2_with fail;have eo:(w.alloc (AI #[I r.name,O J r.al,O J r.aE,O J r.addr,I r.text,O J r.port,I r.target] 64)).heap[w.heap.size]?=Z (AI #[I r.name,O J r.al,O J r.aE,O J r.addr,I r.text,O J r.port,I r.target] 64 (0,0)):=Ie w _;refine(HN.out _).mono ?_;rintro e w1 ⟨rfl,an⟩;have bf:=(an.block w.heap.size (by simp)).trans eo;have aK:Hid (Below w.heap.size w w1):=((Ia _ _).alloc (By _) _).trans (an.mono (by simp));clear eo an;by_cases h1:bQ r.name=0
 .rw[h1,mZ]
  rw[if_neg (by simpa using h1)] at hE;have f1:w1.cell? ⟨w.heap.size,1,Y⟩=Z (O J r.al):=af bf 1;have f2:w1.cell? ⟨w.heap.size,2,Y⟩=Z (O J r.aE):=af bf 2;go_wp2_with fail;refine(o5 _ _).mono ?_;rintro e w2 ⟨rfl,qR⟩;subst qR;rw[show(decide (r.al=1)||decide (r.al=16)||decide (r.al=33))=gZ r.al from rfl];by_cases h2:gZ r.al=false
  .rw[if_pos h2] at hE
   subst hE;rw[h2];go_wp2_with fail;refine(cQ _ _).mono ?_;rintro e w3 ⟨rfl,rfl⟩;exact⟨rfl,rfl,aK.out⟩
  rw[if_neg h2] at hE;rw[show gZ r.al=true by simpa using h2];go_wp2_with fail;refine(bZ _ _).mono ?_;rintro e w3 ⟨rfl,xu⟩;subst xu;go_wp2_with fail;refine(bw _ _ _ _).mono ?_;rintro e w4 ⟨rfl,wB⟩;subst wB;by_cases h3:within r.aE 0 2147483647=false
  .rw[if_pos h3] at hE
   subst hE;rw[h3];go_wp2_with fail;refine(cQ _ _).mono ?_;rintro e w5 ⟨rfl,rfl⟩;exact⟨rfl,rfl,aK.out⟩
  rw[if_neg h3] at hE;rw[show within r.aE 0 2147483647=true by simpa using h3];go_wp2_with fail;refine(bZ _ _).mono ?_;rintro e w5 ⟨rfl,uo⟩;subst uo;have f0:w5.cell? ⟨w.heap.size,0,Y⟩=Z (I r.name):=af bf 0;have f3:w5.cell? ⟨w.heap.size,3,Y⟩=Z (O J r.addr):=af bf 3;have f4:w5.cell? ⟨w.heap.size,4,Y⟩=Z (I r.text):=af bf 4;have f5:w5.cell? ⟨w.heap.size,5,Y⟩=Z (O J r.port):=af bf 5;have f6:w5.cell? ⟨w.heap.size,6,Y⟩=Z (I r.target):=af bf 6;have heq:∀W,Sem.run be (binOp .eql 64 (Ip #[I r.name,O J r.al,O J r.aE,O J r.addr,I r.text,O J r.port,I r.target]) (Ip #[I r.name,O J r.al,O J r.aE,O J (iE r).addr,I (iE r).text,O J (iE r).port,I (iE r).target])) W=.ok (AT (qS r)) W:=λW=>by
   have h:=Rc.eqE r (iE r) W;rw[ve,xY,sD,Kz] at h;exact h
  have hl5:w.heap.size<w5.drew.heap.size:=(Ib.1 bf).1;generalize(iE r).addr=a' at *;generalize(iE r).text=t' at *;generalize(iE r).port=p' at *;generalize(iE r).target=g' at *;go_wp2_with fail;refine wp_region_held_drew (S:=λW=>W.heap[w.heap.size]?=Z (AI #[I r.name,O J r.al,O J r.aE,O J r.addr,I r.text,O J r.port,I r.target] 64 (0,0))) (by kernel_rfl) bf (λqb=>?_);refine IV (i:=0) (v:=ln r) rfl (by kernel_rfl) (by kernel_rfl) (by kernel_rfl) (λ_ _ _ h=>h) (Or.inl ⟨by rfl,?_⟩) (by assumption) ?_
  .intro W ei
   have d0:W.cell? ⟨w.heap.size,0,Y⟩=Z (I r.name):=af ei 0;have d1:W.cell? ⟨w.heap.size,1,Y⟩=Z (O J r.al):=af ei 1;have d2:W.cell? ⟨w.heap.size,2,Y⟩=Z (O J r.aE):=af ei 2;have d3:W.cell? ⟨w.heap.size,3,Y⟩=Z (O J r.addr):=af ei 3;have d4:W.cell? ⟨w.heap.size,4,Y⟩=Z (I r.text):=af ei 4;have d5:W.cell? ⟨w.heap.size,5,Y⟩=Z (O J r.port):=af ei 5;have d6:W.cell? ⟨w.heap.size,6,Y⟩=Z (I r.target):=af ei 6;go_simp
  refine IV (i:=1) (v:=ln r) rfl (by kernel_rfl) (by kernel_rfl) (by kernel_rfl) (λ_ _ _ h=>h) (Or.inl ⟨by rfl,?_⟩) (by assumption) ?_
  .intro W ei
   have d0:W.cell? ⟨w.heap.size,0,Y⟩=Z (I r.name):=af ei 0;have d1:W.cell? ⟨w.heap.size,1,Y⟩=Z (O J r.al):=af ei 1;have d2:W.cell? ⟨w.heap.size,2,Y⟩=Z (O J r.aE):=af ei 2;have d3:W.cell? ⟨w.heap.size,3,Y⟩=Z (O J r.addr):=af ei 3;have d4:W.cell? ⟨w.heap.size,4,Y⟩=Z (I r.text):=af ei 4;have d5:W.cell? ⟨w.heap.size,5,Y⟩=Z (O J r.port):=af ei 5;have d6:W.cell? ⟨w.heap.size,6,Y⟩=Z (I r.target):=af ei 6;go_simp
  refine wpAnyH_ready (rs:=[2]) (by kernel_rfl) (by simp) ?_;refine QT rfl (λK hK=>?_) Q0;go_simp;refine(HO.out _).mono ?_;rintro e w6 ⟨rfl,gK⟩;have iW:Hid (Below w.heap.size w w6):=aK.out.trans (Below.trans (Below.drew (Ia _ _)) (gK.mono aK.out.size));have uc:=(gK.block w.heap.size hl5).trans qb;clear gK aK;refine hK.out _ _ uc (λ_=>?_);clear hK K;refine wpAnyH_ready (rs:=[3]) (by kernel_rfl) (by simp) ?_;refine QT rfl (λK hK=>?_) Q0;go_simp;refine hK.out _ _ uc (λ_=>?_);clear hK K;refine wpAnyH_ready (rs:=[4]) (by kernel_rfl) (by simp) ?_;refine QT rfl (λK hK=>?_) Q0;go_simp;by_cases h4:qS r=false
  .rw[if_pos h4] at hE
   subst hE;rw[h4];refine(cQ _ _).mono ?_;rintro e w7 ⟨rfl,rfl⟩;exact⟨rfl,rfl,iW.out⟩
  rw[if_neg h4] at hE;rw[show qS r=true by simpa using h4];refine(bZ _ _).mono ?_;rintro e w7 ⟨rfl,hw7⟩;subst hw7;refine hK.out _ _ uc (λ_=>?_);clear hK K;refine wpAnyH_done (by kernel_rfl) ?_ _;clear heq HO f0 f1 f2 f3 f4 f5 f6;have f3:w7.cell? ⟨w.heap.size,3,Y⟩=Z (O J r.addr):=af uc 3;have f4:w7.cell? ⟨w.heap.size,4,Y⟩=Z (I r.text):=af uc 4;have f5:w7.cell? ⟨w.heap.size,5,Y⟩=Z (O J r.port):=af uc 5;have f6:w7.cell? ⟨w.heap.size,6,Y⟩=Z (I r.target):=af uc 6;go_wp2_with fail;refine(dG _ _).mono ?_;rintro e w8 ⟨rfl,T6⟩;subst T6;by_cases h5:within r.addr 0 4294967295=false
  .rw[if_pos (by rw[h5];rfl)] at hE
   subst hE;rw[h5];go_wp2_with fail;refine(cQ _ _).mono ?_;rintro e w9 ⟨rfl,rfl⟩;exact⟨rfl,rfl,iW.out⟩
  have h5t:within r.addr 0 4294967295=true:=by simpa using h5
  rw[h5t] at hE ⊢;rw[Bool.true_and] at hE;go_wp2_with fail;refine(bw _ _ _ _).mono ?_;rintro e w9 ⟨rfl,hw9⟩;subst hw9;by_cases h6:within r.port 0 65535=false
  .rw[if_pos h6] at hE
   subst hE;rw[h6];go_wp2_with fail;refine(cQ _ _).mono ?_;rintro e wa ⟨rfl,rfl⟩;exact⟨rfl,rfl,iW.out⟩
  rw[if_neg h6] at hE;rw[show within r.port 0 65535=true by simpa using h6];go_wp2_with fail;refine(bZ _ _).mono ?_;rintro e wa ⟨rfl,EC⟩;subst EC;by_cases h7:200<r.text.size
  .rw[if_pos h7] at hE
   subst hE;have h8:decide ((r.text.size:Int)<=200)=false:=by simp;omega
   go_wp2_with fail;refine(cQ _ _).mono ?_;rintro e wb ⟨rfl,rfl⟩;exact⟨rfl,rfl,iW.out⟩
  rw[if_neg h7] at hE;have h8:decide ((r.text.size:Int)<=200)=true:=by simp;omega
  go_wp2_with fail;refine(bZ _ _).mono ?_;rintro e wb ⟨rfl,hwb⟩;subst hwb;go_wp2_with fail;refine(HT.out _).mono ?_;rintro e wc ⟨rfl,dJ⟩;have HBC:Hid (Below w.heap.size w wc):=iW.out.trans (dJ.mono iW.out.size);clear dJ;subst hE;by_cases h9:bQ r.target=0
  .rw[h9,mZ]
   go_wp2_with fail;simp[Ji,results,Tryz.results73];exact⟨by rw[h9];rfl,HBC.out⟩
  .rw[dH h9]
   exact⟨rfl,(dH h9).symm,HBC.out⟩
 .rw[if_pos h1] at hE
  subst hE;rw[dH h1];exact⟨rfl,(dH h1).symm,aK.out⟩
def fM:List Rc.Rec->Int
 |[]=>0
 |r::t=>if bC r=0 then fM t else bC r
def bc(id code al:Int)(name:ByteArray)(rs:List Rc.Rec):Int:=
 if(within id 0 65535&&within code 0 15)=false then 3
 else if 20<rs.length then 2
 else if bQ name≠0 then bQ name
 else if gZ al=false then 7
 else fM rs
theorem AR{rs:List Rc.Rec}{k:Nat}(h:k<rs.length)(he:fM rs=fM (rs.drop k)):fM rs=if bC (rs.getD k Rc.dm)=0 then fM (rs.drop (k+1)) else bC (rs.getD k Rc.dm):=by
 rw[he,List.drop_eq_getElem_cons h,fM,show rs.getD k Rc.dm=rs[k] by simp[Io,Ic h]]
theorem j9(id code al:Int)(ay cut:Bool)(name:ByteArray)(rs:List Rc.Rec)(v:Value)(w:World)(hs:name.size<=Ii)(hv:Rc.Sl w v rs) :
 Calls be 28 #[Ip #[O J id,AT ay,AT cut,O J code,I name,O J al,v]] w λe w'=>e=dC (bc id code al name rs)/\Below w.heap.size w w':=by
 have HN:Hid (∀W,Calls be 71 #[I name] W λe w'=>e=dC (bQ name)/\Below W.heap.size W w'):=λW=>jx _ _ hs;obtain⟨pa,cap,rfl,mU,dP⟩:=hv;have AU:Hid (∀j,(rs.getD j Rc.dm).ok):=mU;have sE:Hid (rs=[]\/∃b off,pa=Z ⟨b,off,Y⟩/\b<w.heap.size/\Rc.Row w b off rs):=dP;clear mU dP hs;generalize hE:bc id code al name rs=E;unfold bc at hE;go_enter Tryz.func28,Tryz.ntmps28;go_wp2_with fail;have eo:(w.alloc (AI #[O J id,AT ay,AT cut,O J code,I name,O J al,U pa rs.length cap] 43)).heap[w.heap.size]?=Z (AI #[O J id,AT ay,AT cut,O J code,I name,O J al,U pa rs.length cap] 43 (0,0)):=Ie w _;obtain⟨w0,du⟩:∃w0,w0=w.alloc (AI #[O J id,AT ay,AT cut,O J code,I name,O J al,U pa rs.length cap] 43):=⟨_,rfl⟩;have dB:Hid (Below w.heap.size w w0):=(show Below _ _ _ by rw[du];exact(Ia _ _).alloc (By _) _);rw[<- du] at eo ⊢;clear du;have f3:w0.cell? ⟨w.heap.size,3,Y⟩=Z (O J code):=af eo 3;have f4:w0.cell? ⟨w.heap.size,4,Y⟩=Z (I name):=af eo 4;have f6:w0.cell? ⟨w.heap.size,6,Y⟩=Z (U pa rs.length cap):=af eo 6;refine(bw _ _ _ _).mono ?_;rintro e w1 ⟨rfl,NM⟩;subst NM;by_cases h1:within id 0 65535=false
 .rw[if_pos (by rw[h1];rfl)] at hE
  subst hE;rw[h1];go_wp2_with fail;refine(cQ _ _).mono ?_;rintro e w9 ⟨rfl,rfl⟩;exact⟨rfl,rfl,dB.out⟩
 have h1t:within id 0 65535=true:=by simpa using h1
 rw[h1t] at hE ⊢;rw[Bool.true_and] at hE;go_wp2_with fail;refine(bw _ _ _ _).mono ?_;rintro e w2 ⟨rfl,qR⟩;subst qR;by_cases h2:within code 0 15=false
 .rw[if_pos h2] at hE
  subst hE;rw[h2];go_wp2_with fail;refine(cQ _ _).mono ?_;rintro e w9 ⟨rfl,rfl⟩;exact⟨rfl,rfl,dB.out⟩
 rw[if_neg h2] at hE;rw[show within code 0 15=true by simpa using h2];go_wp2_with fail;refine(bZ _ _).mono ?_;rintro e w3 ⟨rfl,xu⟩;subst xu;by_cases h3:20<rs.length
 .rw[if_pos h3] at hE
  subst hE;have h8:decide ((rs.length:Int)<=20)=false:=by simp;omega
  go_wp2_with fail;refine(cQ _ _).mono ?_;rintro e wb ⟨rfl,rfl⟩;exact⟨rfl,rfl,dB.out⟩
 rw[if_neg h3] at hE;have h8:decide ((rs.length:Int)<=20)=true:=by simp;omega
 go_wp2_with fail;refine(bZ _ _).mono ?_;rintro e w4 ⟨rfl,wB⟩;subst wB;go_wp2_with fail;refine(HN.out _).mono ?_;rintro e w5 ⟨rfl,jI⟩;have N0:=(jI.block w.heap.size (Ib.1 eo).1).trans eo;have ia:Hid (Below w.heap.size w w5):=dB.out.trans (jI.mono dB.out.size);clear eo jI f3 f4 f6 h8;by_cases h4:bQ name=0
 .rw[h4,mZ]
  rw[if_neg (by simpa using h4)] at hE;have f5:w5.cell? ⟨w.heap.size,5,Y⟩=Z (O J al):=af N0 5;have f6:w5.cell? ⟨w.heap.size,6,Y⟩=Z (U pa rs.length cap):=af N0 6;go_wp2_with fail;refine(o5 _ _).mono ?_;rintro e w6 ⟨rfl,hw6⟩;subst hw6;rw[show(decide (al=1)||decide (al=16)||decide (al=33))=gZ al from rfl];by_cases h5:gZ al=false
  .rw[if_pos h5] at hE
   subst hE;rw[h5];go_wp2_with fail;refine(cQ _ _).mono ?_;rintro e w7 ⟨rfl,rfl⟩;exact⟨rfl,rfl,ia.out⟩
  rw[if_neg h5] at hE;rw[show gZ al=true by simpa using h5];go_wp2_with fail;refine(bZ _ _).mono ?_;rintro e w7 ⟨rfl,hw7⟩;subst hw7;have T7:Hid (fM rs=E):=hE;have nW:rs.length<=20:=by omega
  clear hE h1 h1t h2 h3 h4 h5 N0;generalize Kn:rs.length=n at *;have tW:Hid (rs.length=n):=Kn;clear Kn;go_wp2_with fail;go_loopw [30] (λi wr=>∃k:Nat,k<=n/\i=O J k/\Hid (Below w.heap.size w wr)/\Hid (fM rs=fM (rs.drop k))) (λi _=>n-(intOf i).toNat)
  case atStart=>exact⟨0,IF _,rfl,ia,rfl⟩
  case round=>
   obtain⟨k,hk,rfl,xR,HZ⟩:=hrel;have bb:=xR.out.size;by_cases aB:k<n
   .obtain⟨b,off,KA,pX,hr⟩:∃b off,pa=Z ⟨b,off,Y⟩/\b<w.heap.size/\Rc.Row w b off rs:=by
     rcases sE.out with h|h
     .have:=tW.out;rw[h] at this;simp at this;omega
     .exact h
    subst KA;obtain⟨g0,g1,g2,g3,g4,g5,g6⟩:=hr k (by rw[tW.out];exact aB);have c0:=(xR.out.cell (p:=⟨b,off+k*7,Y⟩) pX).trans g0;have c1:=(xR.out.cell (p:=⟨b,off+k*7+1,Y⟩) pX).trans g1;have c2:=(xR.out.cell (p:=⟨b,off+k*7+2,Y⟩) pX).trans g2;have c3:=(xR.out.cell (p:=⟨b,off+k*7+3,Y⟩) pX).trans g3;have c4:=(xR.out.cell (p:=⟨b,off+k*7+4,Y⟩) pX).trans g4;have c5:=(xR.out.cell (p:=⟨b,off+k*7+5,Y⟩) pX).trans g5;have c6:=(xR.out.cell (p:=⟨b,off+k*7+6,Y⟩) pX).trans g6;clear g0 g1 g2 g3 g4 g5 g6 hr;have o6:Hid (fM rs=if bC (rs.getD k Rc.dm)=0 then fM (rs.drop (k+1)) else bC (rs.getD k Rc.dm)):=AR (by rw[tW.out];exact aB) HZ.out;have HRE:Hid (∀W,Calls be 73 #[ln (rs.getD k Rc.dm)] W λe w'=>e=dC (bC (rs.getD k Rc.dm))/\Below W.heap.size W w'):=λW=>qT _ W (AU.out k);generalize rs.getD k Rc.dm=r at *;have hd:decide ((k:Int)<(n:Int))=true:=by simp;omega
    have eP:(0:Int)<=(k:Int):=by omega
    have TN:(k:Int)<(n:Int):=by omega
    have Ea:((k:Int)).toNat=k:=by omega
    go_wp2_with fail;refine(HRE.out _).mono ?_;rintro e w9 ⟨rfl,tY⟩;have rI:Hid (Below w.heap.size w w9):=(xR.out.alloc bb _).trans (tY.mono (by simp;omega));clear tY c0 c1 c2 c3 c4 c5 c6;by_cases h9:bC r=0
    .rw[h9,mZ]
     have fm:Hid (fM rs=fM (rs.drop (k+1))):=(show _=_ by rw[o6.out,if_pos h9]);clear o6 h9;go_wp2_with fail;exact⟨⟨k+1,by omega,by go_num,rI,fm⟩,by simp[intOf];omega⟩
    .have HF:Hid (E=bC r):=(show _=_ by rw[<- T7.out,o6.out,if_neg h9])
     rw[dH h9];exact⟨rfl,by rw[HF.out];exact(dH h9).symm,rI.out⟩
   .have HF:Hid (E=0):=(show E=0 by rw[<- T7.out,HZ.out,List.drop_of_length_le (by rw[tW.out];omega)];rfl)
    have hd:decide ((k:Int)<(n:Int))=false:=by simp;omega
    go_wp2_with fail;simp[Ji,results,Tryz.results28];exact⟨by rw[HF.out];rfl,xR.out⟩
 .rw[if_pos h4] at hE
  subst hE;rw[dH h4];exact⟨rfl,(dH h4).symm,ia.out⟩
def kH(r:Rc.Rec):List Value:=
 if r.al=1 then cz r.addr 4
 else if r.al=16 then cz r.text.size 1++Of r.text
 else if r.al=33 then cz 0 2++(cz 0 2++(cz r.port 2++dh r.target))
 else[]
theorem mg{s:ByteArray}(h:bQ s=0):(dh s).length<=249:=by
 obtain⟨XS,sw⟩:=jJ h;unfold dh;rw[Ij,bo];have:=lr (fY s) sw;omega
theorem bY.keep{B b:Nat}{bs:List Value}{w w':World}(h:bY B b bs w)(hk:∀k,k=b\/Z k=cB w b->w'.heap[k]?=w.heap[k]?):bY B b bs w':=by
 have go:∀p,Ab B b p bs w->Ab B b p bs w':=λp ⟨hB,v,hb,ho,bE⟩=>by
  have e1:cB w b=v.ownBlock:=by unfold cB;rw[af hb 1];rfl
  refine⟨hB,v,(hk b (.inl rfl)).trans hb,?_,bE⟩;rcases ho.2 with⟨rfl,h0⟩|⟨g,cap,cur,rfl,dN,hg,r⟩
  .exact⟨ho.1,.inl ⟨rfl,h0⟩⟩
  .exact⟨ho.1,.inr ⟨g,cap,cur,rfl,dN,(hk g (.inr (by rw[e1];rfl))).trans hg,r⟩⟩
 rcases h with h|h
 .exact .inl (go _ h)
 .exact .inr (go _ h)
theorem bY.buf{B b:Nat}{bs:List Value}{w:World}(h:bY B b bs w):∀k,cB w b=Z k->B<=k/\k<w.heap.size:=by
 have go:∀p,Ab B b p bs w->∀k,cB w b=Z k->B<=k/\k<w.heap.size:=λp ⟨hB,v,hb,ho,bE⟩ k hk=>by
  have e1:cB w b=v.ownBlock:=by unfold cB;rw[af hb 1];rfl
  rw[e1] at hk;exact ho.lt k hk
 rcases h with h|h
 .exact go _ h
 .exact go _ h
theorem bY.below{B b:Nat}{bs:List Value}{w w':World}(h:bY B b bs w)(hb:Below w.heap.size w w'):bY B b bs w':=
 h.keep λk hk=>by
  rcases hk with rfl|hk
  .exact hb.block _ h.lt
  .exact hb.block _ (h.buf k hk.symm).2
theorem ED(B b:Nat)(bs:List Value)(r:Rc.Rec)(w:World)(hm:ML w)(h:bY B b bs w)(hlen:bs.length<=40000)(ht:r.text.size<=200)(hn:bQ r.target=0)(qO:B<=w.heap.size)(kO:0<B) :
 Calls be 173 #[Ig (Z ⟨b,0,Y⟩),ln r] w λe w'=>e=sh (Il #[])/\bY B b (bs++kH r) w'/\Kp B b w w':=by
 have HI:Hid (bY B b bs w):=h;have aL:=h.lt;clear h;obtain⟨name,al,aE,addr,text,port,target⟩:=r;unfold kH;simp only at ht hn ⊢;obtain⟨w0,du,-,-,eo⟩:=eC w #[I name,O J al,O J aE,O J addr,I text,O J port,I target] 64;have uW:Hid (Kp B b w w0):=(show Kp B b w w0 by rw[du];exact Kp.alloc _ qO);have GI:Hid (bY B b bs w0):=(show bY B b bs w0 by rw[du];exact HI.out.alloc _);have cE:B<=w0.heap.size:=Ir qO uW.out.size;have uX:Hid (ML w0):=(show ML w0 from hm.kp uW.out kO);clear hm;by_cases h1:al=1
 .subst h1
  rw[if_pos rfl];go_enter Tryz.func173,Tryz.ntmps173;go_wp2_with fail;rw[<- du];refine(aF B b 4 addr bs w0 GI.out (by omega) (by omega) cE).mono ?_;rintro e w1 ⟨rfl,h1,an⟩;have tV:Hid (bY B b (bs++cz addr 4) w1):=h1;have mD:Hid (Kp B b w w1):=uW.out.trans an;clear h1 an;go_wp2_with fail;simp[Ji,results,Tryz.results173];exact⟨tV.out,mD.out⟩
 rw[if_neg h1];have e1:(al==1)=false:=by simpa using h1
 by_cases h2:al=16
 .subst h2
  rw[if_pos rfl];clear e1;go_enter Tryz.func173,Tryz.ntmps173;go_wp2_with fail;rw[<- du];refine(qa B b bs text w0 GI.out (by omega) (by omega) cE).mono ?_;rintro e w1 ⟨rfl,h1,an⟩;have tV:Hid (bY B b (bs++(cz text.size 1++Of text)) w1):=h1;have mD:Hid (Kp B b w w1):=uW.out.trans an;clear h1 an;go_wp2_with fail;simp[Ji,results,Tryz.results173];exact⟨by simpa using tV.out,mD.out⟩
 rw[if_neg h2];have e2:(al==16)=false:=by simpa using h2
 by_cases h3:al=33
 .subst h3
  rw[if_pos rfl];clear e1 e2;go_enter Tryz.func173,Tryz.ntmps173;go_wp2_with fail;rw[<- du];refine(aF B b 2 0 bs w0 GI.out (by omega) (by omega) cE).mono ?_;rintro e w1 ⟨rfl,h1,an⟩;have tV:Hid (bY B b (bs++cz 0 2) w1):=h1;have mD:Hid (Kp B b w0 w1):=an;have cP:B<=w1.heap.size:=Ir cE mD.out.size;clear h1 an;go_wp2_with fail;refine(aF B b 2 0 _ w1 tV.out (by omega) (by simp[bo];omega) cP).mono ?_;rintro e w2 ⟨rfl,h1,an⟩;have uY:Hid (bY B b ((bs++cz 0 2)++cz 0 2) w2):=h1;have jY:Hid (Kp B b w0 w2):=mD.out.trans an;have jD:B<=w2.heap.size:=Ir cE jY.out.size;have iQ:w2.heap[w.heap.size]?=Z (AI #[I name,O J 33,O J aE,O J addr,I text,O J port,I target] 64 (0,0)):=jY.out.Eo _ _ eo (by simp;omega) (by simp);have f5:w2.cell? ⟨w.heap.size,5,Y⟩=Z (O J port):=af iQ 5;clear h1 an iQ;go_wp2_with fail;refine(aF B b 2 port _ w2 uY.out (by omega) (by simp[bo];omega) jD).mono ?_;rintro e w3 ⟨rfl,h1,an⟩;have NO:Hid (bY B b (((bs++cz 0 2)++cz 0 2)++cz port 2) w3):=h1;have nF:Hid (Kp B b w0 w3):=jY.out.trans an;have mB:B<=w3.heap.size:=Ir cE nF.out.size;have xJ:w3.heap[w.heap.size]?=Z (AI #[I name,O J 33,O J aE,O J addr,I text,O J port,I target] 64 (0,0)):=nF.out.Eo _ _ eo (by simp;omega) (by simp);have f6:w3.cell? ⟨w.heap.size,6,Y⟩=Z (I target):=af xJ 6;clear h1 an xJ;go_wp2_with fail;refine(lZ B b _ target w3 (uX.out.kp nF.out kO) NO.out (by simp[bo];omega) hn mB).mono ?_;rintro e w4 ⟨rfl,h1,an⟩;have NP:Hid (bY B b (bs++(cz 0 2++(cz 0 2++(cz port 2++dh target)))) w4):=(show bY _ _ _ _ by simpa[Jf] using h1);have tX:Hid (Kp B b w w4):=uW.out.trans (nF.out.trans an);clear h1 an;go_wp2_with fail;simp[Ji,results,Tryz.results173];exact⟨by simpa using NP.out,tX.out⟩
 rw[if_neg h3];have e3:(al==33)=false:=by simpa using h3
 clear h1 h2 h3;go_enter Tryz.func173,Tryz.ntmps173;go_wp2_with fail;simp[Ji,results,Tryz.results173];rw[<- du];exact⟨GI.out,uW.out⟩
def eY(r:Rc.Rec):List UInt8:=
 if r.al=1 then fe r.addr 4
 else if r.al=16 then fe r.text.size 1++r.text.data.toList
 else if r.al=33 then fe 0 2++(fe 0 2++(fe r.port 2++cH r.target))
 else[]
theorem vh(s:ByteArray):Of s=I1 s.data.toList:=rfl
theorem nj(r:Rc.Rec):kH r=I1 (eY r):=by
 unfold kH eY;split
 .exact eQ _ _
 split
 .rw[eR,eQ,vh]
 split
 .simp only[eR,eQ,gL]
 .rfl
theorem sF{r:Rc.Rec}(ht:r.text.size<=200)(hn:bQ r.target=0):(kH r).length<=255:=by
 have:=mg hn;unfold kH;split
 .simp[bo]
 split
 .simp[bo,Lib.strCells_length];omega
 split
 .simp only[Ij,bo];omega
 .simp
theorem KB{r:Rc.Rec}(h:gZ r.al=true):eY r≠[]:=by
 unfold eY;simp only[gZ,Bool.or_eq_true,decide_eq_true_eq] at h;split
 .simp[fe]
 split
 .simp[fe]
 split
 .simp[fe]
 .omega
theorem eS{r:Rc.Rec}(h:bC r=0):bQ r.name=0/\gZ r.al=true/\r.text.size<=200/\bQ r.target=0:=by
 unfold bC at h;split at h
 .omega
 rename_i h1;split at h
 .omega
 rename_i h2;split at h
 .omega
 split at h
 .omega
 split at h
 .omega
 split at h
 .omega
 rename_i h6;exact⟨by omega,by simpa using h2,by omega,h⟩
def iG(r:Rc.Rec):List Value:=dh r.name++(cz r.al 2++(cz 1 2++(cz r.aE 4++(cz (kH r).length 2++kH r))))
theorem N1(B b:Nat)(bs:List Value)(w:World)(h:bY B b bs w) :
 Calls be 174 #[Ig (Z ⟨b,0,Y⟩)] w λe w'=>e=sh (O J bs.length)/\w'=w:=by
 obtain⟨p,hB,v,uh,hown,bE⟩:∃p,Ab B b p bs w:=by
  rcases h with h|h
  .exact⟨_,h⟩
  .exact⟨_,h⟩
 have c1:w.cell? ⟨b,1,Y⟩=Z v:=af uh 1;obtain⟨ao,cap,rfl⟩:∃ao cap,v=U ao bs.length cap:=by
  rcases hown.2 with⟨rfl,h0⟩|⟨g,cap,cur,rfl,_⟩
  .exact⟨Y,0,by rw[h0]⟩
  .exact⟨_,cap,rfl⟩
 go_enter Tryz.func174,Tryz.ntmps174;go_wp2_with fail;go_ret;exact⟨rfl,rfl⟩
theorem wC(w:World)(p:Addr)(n k:Nat)(h:k≠p.block):(w.freeze p n).heap[k]?=w.heap[k]?:=by
 unfold World.freeze;split
 .rfl
 .simp only[Array.getElem?_modify]
  rw[if_neg (Ne.symm h)]
theorem xZ(B b:Nat)(l:List UInt8)(w:World)(h:bY B b (I1 l) w)(h0:l≠[]) :
 Calls be 75 #[Ig (Z ⟨b,0,Y⟩)] w λe w'=>e=sh (I ⟨l.toArray⟩)/\Below B w w'/\∀k,Z k≠cB w b->w'.heap[k]?=w.heap[k]?:=by
 obtain⟨p,hB,v,uh,hown,bE⟩:∃p,Ab B b p (I1 l) w:=by
  rcases h with h|h
  .exact⟨_,h⟩
  .exact⟨_,h⟩
 have XW:cB w b=v.ownBlock:=by unfold cB;rw[af uh 1];rfl
 have tZ:l.length≠0:=by simpa using h0
 rw[OW] at hown;obtain⟨g,cap,cur,rfl,dN,hg,fa,dO,cJ,aV⟩:∃g cap cur,v=U (Z ⟨g,0,Y⟩) l.length cap/\B<=g/\w.heap[g]?=Z (AI cur 5 (0,0))/\l.length<=cap/\cap<=Ii/\cur.size=cap*1/\cur.toList.take (l.length*1)=I1 l:=by
  rcases hown.2 with⟨_,hz⟩|⟨g,cap,cur,hv,r⟩
  .exact absurd hz tZ
  .exact⟨g,cap,cur,hv,r⟩
 have c1:w.drew.cell? ⟨b,1,Y⟩=Z (U (Z ⟨g,0,Y⟩) l.length cap):=by
  have:w.drew.heap[b]?=Z (AI #[p,U (Z ⟨g,0,Y⟩) l.length cap] 131 (0,0)):=uh
  rw[Lib.cell_of_heap this];rfl
 have hSD:(Builtin.unsafeSliceData_ #[127] 186 #[U (Z ⟨g,0,Y⟩) l.length cap]).run be w.drew=.ok (Ig (Z ⟨g,0,Y⟩)) w.drew:=
  Lib.run_unsafeSliceData_row _ _ _ _ _ _ (by omega)
 have hUS:(Builtin.unsafeString_ #[186,3] 9 #[Ig (Z ⟨g,0,Y⟩),O J l.length]).run be w.drew=.ok (I ⟨l.toArray⟩) (w.drew.freeze ⟨g,0,Y⟩ l.length):=by
  refine Lib.run_unsafeString_row w.drew 186 3 9 5 Tryz.underlying186 Tryz.cellsByte g cur.size (by have mF:w.drew.heap[g]?=Z (AI cur 5 (0,0)):=hg;simp[World.shape?,mF]) l h0 (by omega) (by unfold Ii at dO;omega) ?_;intro j x hx;have:=hown.cells (g:=g) rfl j (O .u8 x.toNat) (by simp[I1,hx]);exact this
 have mixed:Tryz.prog.follows .mixedOrders=true:=by kernel_rfl
 have AV:Hid (∀k,Z k≠cB w b->(w.drew.freeze ⟨g,0,Y⟩ l.length).heap[k]?=w.heap[k]?):=λk hk=>wC w.drew _ _ k (λe=>hk (by rw[XW,e];rfl));clear XW;go_enter Tryz.func75,Tryz.ntmps75;go_wp2_with fail;go_region_o
 all_goals (go_wp2;go_ret;exact⟨rfl,Lib.below_freeze (Below.drew (Ia B w)) (p:=⟨g,0,Y⟩) dN _,AV.out⟩)
theorem jb{w w':World}{b:Nat}(h:w'.heap[b]?=w.heap[b]?):cB w' b=cB w b:=by
 unfold cB;rw[World.cell?_of_block (a:=⟨b,1,Y⟩) h]
theorem bY.bytes{B b:Nat}{bs:List Value}{w:World}(h:bY B b bs w):∀k,cB w b=Z k->∃c fz,w.heap[k]?=Z (AI c 5 fz):=by
 have go:∀p,Ab B b p bs w->∀k,cB w b=Z k->∃c fz,w.heap[k]?=Z (AI c 5 fz):=λp ⟨hB,v,hb,ho,bE⟩ k hk=>by
  have e1:cB w b=v.ownBlock:=by unfold cB;rw[af hb 1];rfl
  rw[e1] at hk;exact sq ho k hk
 rcases h with h|h
 .exact go _ h
 .exact go _ h
theorem Kp.under{B b d:Nat}{w w':World}(h:Below d w w')(hd:w.heap.size<=d)(hB:B<=d):Kp B b w w':=
 ⟨h.mono hB,λk o hk _ _=>(h.block k (Iu (Ib.1 hk).1 hd)).trans hk,λhb=>⟨λk hk _ _=>h.block k (by omega),.inl (jb (h.block b (by omega)))⟩⟩
theorem Kp.aeO{B b d:Nat}{ds:List Value}{w w6 w7:World}(h:Kp B b w w6)(hd:bY d d ds w6)(XX:w.heap.size<=d)(hBd:B<=d)(hb:b<w.heap.size)(aeP:Below d w6 w7)(hk:∀k,Z k≠cB w6 d->w7.heap[k]?=w6.heap[k]?):Kp B b w w7 where
 uM:=h.uM.trans (aeP.mono hBd)
 Eo:=λk o hk1 NK iA=>by
  have h6:=h.Eo k o hk1 NK iA;refine(hk k λe=>?_).trans h6;obtain⟨c,fz,hc⟩:=hd.bytes k e.symm;rw[h6] at hc;injection hc with hc;exact iA _ _ hc
 kq:=λpX=>by
  obtain⟨h1,h2⟩:=h.kq pX;have bE:∀k,k<w.heap.size->Z k≠cB w6 d:=λk hkw e=>by have:=(hd.buf k e.symm).1;omega
  refine⟨λk hkw NK gj=>(hk k (bE k hkw)).trans (h1 k hkw NK gj),?_⟩;rw[jb (hk b (bE b hb))];exact h2
theorem EE{b d:Nat}{ds:List Value}{w1 w6:World}(hk:Kq b w1 w6)(hb:b<w1.heap.size)(hd:bY d d ds w1)(hold:∀k,cB w1 b=Z k->k<d)(XY:cB w6 d=cB w1 d):∀k,Z k=cB w6 b->Z k≠cB w6 d:=λk e1 e2=>by
 rw[XY] at e2;have h1:=hd.buf k e2.symm;rcases(hk hb).2 with h2|h2
 .have:=hold k (by rw[<- h2];exact e1.symm);omega
 .have:=h2 k e1.symm;omega
theorem bY.other{b d:Nat}{ds:List Value}{w1 w6:World}(hd:bY d d ds w1)(hk:Kq b w1 w6)(hb:b<d)(hold:∀k,cB w1 b=Z k->k<d):bY d d ds w6/\cB w6 d=cB w1 d:=by
 have pX:b<w1.heap.size:=Nat.lt_trans hb hd.lt;obtain⟨h1,_⟩:=hk pX;have hdd:w6.heap[d]?=w1.heap[d]?:=h1 d hd.lt (by omega) (λe=>by have:=hold d e.symm;omega);refine⟨hd.keep λk rD=>?_,jb hdd⟩;rcases rD with rfl|rD
 .exact hdd
 .have h3:=hd.buf k rD.symm
  exact h1 k h3.2 (by omega) (λe=>by have:=hold k e.symm;omega)
theorem yb(B b:Nat)(bs:List Value)(r:Rc.Rec)(w:World)(hm:ML w)(h:bY B b bs w)(hlen:bs.length<=30000)(hc:bC r=0)(qO:B<=w.heap.size)(_hB0:0<B) :
 Calls be 126 #[Ig (Z ⟨b,0,Y⟩),ln r] w λe w'=>e=sh (Il #[])/\bY B b (bs++iG r) w'/\Kp B b w w':=by
 obtain⟨M8,Cq,htx,hcg⟩:=eS hc;have HI:Hid (bY B b bs w):=h;have aL:=h.lt;have XO:=mg M8;have XZ:=sF htx hcg;have X0:=KB Cq;have M9:Hid (kH r=I1 (eY r)):=nj r;clear h hc;go_enter Tryz.func126,Tryz.ntmps126;go_wp2_with fail;obtain⟨w0,du⟩:∃w0,w0=(w.alloc (AI #[I r.name,O J r.al,O J r.aE,O J r.addr,I r.text,O J r.port,I r.target] 64)).alloc (AI #[Ig Y,U Y 0 0] 131):=⟨_,rfl⟩;rw[<- du];have T8:w0.heap.size=w.heap.size+1+1:=by rw[du];simp
 have eo:w0.heap[w.heap.size]?=Z (AI #[I r.name,O J r.al,O J r.aE,O J r.addr,I r.text,O J r.port,I r.target] 64 (0,0)):=by
  rw[du];exact(I0 _ _ _ (by simp)).trans (Ie w _)
 have kI:w0.heap[w.heap.size+1]?=Z (AI #[Ig Y,U Y 0 0] 131 (0,0)):=by
  have h:=Ie (w.alloc (AI #[I r.name,O J r.al,O J r.aE,O J r.addr,I r.text,O J r.port,I r.target] 64)) (AI #[Ig Y,U Y 0 0] 131);rw[du];simpa using h
 have dB:Hid (Below w.heap.size w w0):=(show Below _ _ _ by rw[du];exact((Ia _ _).alloc (By _) _).alloc (by simp) _);have uX:Hid (ML w0):=(show ML w0 from hm.below dB.out);clear du hm;refine(ED (w.heap.size+1) (w.heap.size+1) [] r w0 uX.out (.inl ⟨By _,U Y 0 0,kI,Jj w0 _ 5 1,by simp[I2]⟩) (by simp) htx hcg (by omega) (by omega)).mono ?_;rintro e w1 ⟨rfl,h1,an⟩;have iR:Hid (bY (w.heap.size+1) (w.heap.size+1) (kH r) w1):=(show bY _ _ _ _ by simpa using h1);have aK:Hid (Below (w.heap.size+1) w0 w1):=an.uM;have KC:Hid (Below w.heap.size w w1):=dB.out.trans (an.uM.mono (by omega));have mD:Hid (Kp B b w w1):=Kp.under KC.out (By _) qO;have Sg:Hid (ML w1):=(show ML w1 from uX.out.kp an (by omega));have tV:Hid (bY B b bs w1):=HI.out.below KC.out;have N2:Hid (∀k,cB w1 b=Z k->k<w.heap.size+1):=λk hk=>by
  rw[jb (KC.out.block b aL)] at hk;have:=(HI.out.buf k hk).2;omega
 have bf:w1.heap[w.heap.size]?=Z (AI #[I r.name,O J r.al,O J r.aE,O J r.addr,I r.text,O J r.port,I r.target] 64 (0,0)):=(aK.out.block _ (by omega)).trans eo;have cP:B<=w1.heap.size:=Ir qO KC.out.size;have HG:Hid (∀W,Kp B b w1 W->W.heap[w.heap.size]?=Z (AI #[I r.name,O J r.al,O J r.aE,O J r.addr,I r.text,O J r.port,I r.target] 64 (0,0))):=λW hW=>hW.Eo _ _ bf (by simp;omega) (by simp);have f0:w1.cell? ⟨w.heap.size,0,Y⟩=Z (I r.name):=af bf 0;clear h1 an eo kI bf;go_wp2_with fail;refine(lZ B b bs r.name w1 Sg.out tV.out (by omega) M8 cP).mono ?_;rintro e w2 ⟨rfl,h1,an⟩;have uY:Hid (bY B b (bs++dh r.name) w2):=h1;have jY:Hid (Kp B b w1 w2):=an;have jD:B<=w2.heap.size:=Ir cP jY.out.size;have f1:w2.cell? ⟨w.heap.size,1,Y⟩=Z (O J r.al):=af (HG.out w2 jY.out) 1;clear h1 an f0;go_wp2_with fail;refine(aF B b 2 r.al _ w2 uY.out (by omega) (by simp;omega) jD).mono ?_;rintro e w3 ⟨rfl,h1,an⟩;have NO:Hid (bY B b ((bs++dh r.name)++cz r.al 2) w3):=h1;have nF:Hid (Kp B b w1 w3):=jY.out.trans an;have mB:B<=w3.heap.size:=Ir cP nF.out.size;clear h1 an f1;go_wp2_with fail;refine(aF B b 2 1 _ w3 NO.out (by omega) (by simp[bo];omega) mB).mono ?_;rintro e w4 ⟨rfl,h1,an⟩;have NP:Hid (bY B b (((bs++dh r.name)++cz r.al 2)++cz 1 2) w4):=h1;have tX:Hid (Kp B b w1 w4):=nF.out.trans an;have iu:B<=w4.heap.size:=Ir cP tX.out.size;have f2:w4.cell? ⟨w.heap.size,2,Y⟩=Z (O J r.aE):=af (HG.out w4 tX.out) 2;clear h1 an;go_wp2_with fail;refine(aF B b 4 r.aE _ w4 NP.out (by omega) (by simp[bo];omega) iu).mono ?_;rintro e w5 ⟨rfl,h1,an⟩;have TT:Hid (bY B b ((((bs++dh r.name)++cz r.al 2)++cz 1 2)++cz r.aE 4) w5):=h1;have AG:Hid (Kp B b w1 w5):=tX.out.trans an;have fW:B<=w5.heap.size:=Ir cP AG.out.size;have TS:Hid (bY (w.heap.size+1) (w.heap.size+1) (kH r) w5):=(iR.out.other AG.out.kq (by omega) N2.out).1;clear h1 an f2;go_wp2_with fail;refine(N1 _ _ _ w5 TS.out).mono ?_;rintro e w5' ⟨rfl,uo⟩;subst uo;go_wp2_with fail;refine(aF B b 2 (kH r).length _ w5' TT.out (by omega) (by simp[bo];omega) fW).mono ?_;rintro e w6 ⟨rfl,h1,an⟩;have TV:Hid (bY B b (((((bs++dh r.name)++cz r.al 2)++cz 1 2)++cz r.aE 4)++cz (kH r).length 2) w6):=h1;have xt:Hid (Kp B b w1 w6):=AG.out.trans an;have sG:B<=w6.heap.size:=Ir cP xt.out.size;obtain⟨XY,Si⟩:=iR.out.other xt.out.kq (by omega) N2.out;have Sc:Hid (bY (w.heap.size+1) (w.heap.size+1) (kH r) w6):=XY;have X6:Hid (bY (w.heap.size+1) (w.heap.size+1) (I1 (eY r)) w6):=(show bY _ _ _ _ by rw[<- M9.out];exact XY);have HAP:Hid (∀k,Z k=cB w6 b->Z k≠cB w6 (w.heap.size+1)):=EE xt.out.kq (by have:=KC.out.size;omega) iR.out N2.out Si;clear h1 an XY Si;go_wp2_with fail;have bb:(⟨(eY r).toArray⟩:ByteArray).size=(kH r).length:=by rw[M9.out,OW];simp[JP]
 have T9:Hid (Of ⟨(eY r).toArray⟩=kH r):=(show _=_ by rw[M9.out,vh]);have HL6:Hid ((((((bs++dh r.name)++cz r.al 2)++cz 1 2)++cz r.aE 4)++cz (kH r).length 2).length+(⟨(eY r).toArray⟩:ByteArray).size<=1000000):=(show _<=_ by rw[bb];simp[bo];omega);have o6:Hid (Calls be 75 #[Ig (Z ⟨w.heap.size+1,0,Y⟩)] w6.drew λe w'=>e=sh (I ⟨(eY r).toArray⟩)/\Hid (Kp B b w w'/\bY B b (((((bs++dh r.name)++cz r.al 2)++cz 1 2)++cz r.aE 4)++cz (kH r).length 2) w'/\B<=w'.heap.size)):=(show Calls _ _ _ _ _ by
  refine(xZ _ _ (eY r) w6.drew X6.out X0).mono ?_;rintro e w7 ⟨rfl,h1,an⟩;have xT:Kp B b w w7:=(mD.out.trans xt.out).drew.aeO (w6:=w6.drew) Sc.out (by omega) (by omega) aL h1 an;refine⟨rfl,xT,TV.out.keep λk hk=>?_,Ir qO xT.size⟩;rcases hk with rfl|hk
  .refine an _ λe=>?_
   have:=(Sc.out.buf _ e.symm).1;omega
  .exact an k (HAP.out k hk))
 clear Sc X6 HAP TV xt N2 iR X0 tV uY NO NP TT jY nF tX AG TS;go_region_held3 (λ_=>True) (trivial) (first
  |(go_at_call 75;refine o6.out.mono ?_;rintro e w7 ⟨rfl,H7⟩)
  |(go_at_call 117;refine(kz B b _ _ _ H7.out.2.1 HL6.out H7.out.2.2).mono ?_;rintro e w8 ⟨rfl,h1,an⟩))
 have Xu:Hid (bY B b (bs++iG r) w8):=(show bY _ _ _ _ by
  unfold iG;have h2:bY B b _ w8:=.inr h1;rw[T9.out] at h2;simpa[Jf] using h2)
 have GJ:Hid (Kp B b w w8):=H7.out.1.trans an;clear h1 an;go_wp2_with fail;simp[Ji,results,Tryz.results126];exact⟨Xu.out,GJ.out⟩
theorem AW(id code al:Int)(ay cut:Bool)(name:ByteArray)(v:Value)(w:World) :
 Calls be 100 #[Ip #[O J id,AT ay,AT cut,O J code,I name,O J al,v]] w λe w'=>e=sh (O J (o7 ay cut))/\∃o,w'=w.alloc o:=by
 cases ay<;>cases cut
 all_goals
  go_enter Tryz.func100,Tryz.ntmps100;go_wp2_with fail;go_ret;exact⟨rfl,_,rfl⟩
def ly(id code al:Int)(ay cut:Bool)(name:ByteArray)(n:Nat):List Value:=
 cz id 2++(cz (o7 ay cut) 1++(cz code 1++(cz 1 2++(cz n 2++(cz 0 2++(cz 0 2++(dh name++(cz al 2++cz 1 2))))))))
theorem KD{r:Rc.Rec}(h:bC r=0):(iG r).length<=514:=by
 obtain⟨h1,_,h3,h4⟩:=eS h;have:=mg h1;have:=sF h3 h4;unfold iG;simp only[Ij,bo];omega
theorem yc:∀(rs:List Rc.Rec),(∀r∈rs,bC r=0)->(rs.flatMap iG).length<=514*rs.length
 |[],_=>by simp
 |x::r,h=>by
  have h1:=KD (h x JJ);have h2:=yc r (λy hy=>h y (Oh _ hy));rw[OH,Ij,List.length_cons];omega
theorem yd(B b:Nat)(bs:List Value)(id code al:Int)(ay cut:Bool)(name:ByteArray)(rs:List Rc.Rec)(pa:Option Addr)(cap:Nat)(w:World)(hm:ML w)(h:bY B b bs w)(hlen:bs.length<=1000)(hn:bQ name=0)(qO:B<=w.heap.size)(kO:0<B)(h20:rs.length<=20)(cJ:∀r∈rs,bC r=0)(dP:∀W,Below B w W->rs=[]\/∃b off,pa=Z ⟨b,off,Y⟩/\b<W.heap.size/\Rc.Row W b off rs) :
 Calls be 74 #[Ig (Z ⟨b,0,Y⟩),Ip #[O J id,AT ay,AT cut,O J code,I name,O J al,U pa rs.length cap]] w λe w'=>e=sh (Il #[])/\bY B b (bs++(ly id code al ay cut name rs.length++rs.flatMap iG)) w'/\Kp B b w w':=by
 have sE:Hid (∀W,Below B w W->rs=[]\/∃b off,pa=Z ⟨b,off,Y⟩/\b<W.heap.size/\Rc.Row W b off rs):=dP;have HCS:Hid (∀k,k<rs.length->bC (rs.getD k Rc.dm)=0):=λk hk=>cJ _ (by simp[Io,Ic hk]);have Es:Hid (∀k,((rs.take k).flatMap iG).length<=10280):=λk=>by
  refine Ir (yc (rs.take k) λx hx=>cJ x (JV hx)) ?_;rw[IA];omega
 have HTK:Hid (∀k,k<rs.length->(rs.take (k+1)).flatMap iG=(rs.take k).flatMap iG++iG (rs.getD k Rc.dm)):=λk hk=>by
  rw[List.take_succ_eq_append_getElem hk,List.flatMap_append];simp[Io,hk]
 have KE:Hid (rs.take rs.length=rs):=List.take_length;have HMW:Hid (ML w):=hm;clear dP cJ;generalize RW:rs.length=n at *;have Sj:Hid (rs.length=n):=RW;clear RW;have HI:Hid (bY B b bs w):=h;clear h;have aL:=HI.out.lt;obtain⟨XS,sw⟩:=jJ hn;have hwn:(dh name).length<=249:=by
  unfold dh;rw[Ij,bo];have:=lr (fY name) sw;omega
 clear XS sw;go_enter Tryz.func74,Tryz.ntmps74;go_wp2_with fail;obtain⟨w0,du⟩:∃w0,w0=w.alloc (AI #[O J id,AT ay,AT cut,O J code,I name,O J al,U pa n cap] 43):=⟨_,rfl⟩;rw[<- du];have eo:w0.heap[w.heap.size]?=Z (AI #[O J id,AT ay,AT cut,O J code,I name,O J al,U pa n cap] 43 (0,0)):=by rw[du];exact Ie w _
 have uW:Hid (Kp B b w w0):=(show Kp B b w w0 by rw[du];exact Kp.alloc _ qO);have GI:Hid (bY B b bs w0):=(show bY B b bs w0 by rw[du];exact HI.out.alloc _);have uX:Hid (ML w0):=(show ML w0 from hm.kp uW.out kO);have HG:Hid (∀W,Kp B b w0 W->W.cell? ⟨w.heap.size,0,Y⟩=Z (O J id)/\W.cell? ⟨w.heap.size,1,Y⟩=Z (AT ay)/\W.cell? ⟨w.heap.size,2,Y⟩=Z (AT cut)/\W.cell? ⟨w.heap.size,3,Y⟩=Z (O J code)/\W.cell? ⟨w.heap.size,4,Y⟩=Z (I name)/\W.cell? ⟨w.heap.size,5,Y⟩=Z (O J al)/\W.cell? ⟨w.heap.size,6,Y⟩=Z (U pa n cap)):=λW hW=>by
  have hg:W.heap[w.heap.size]?=Z (AI #[O J id,AT ay,AT cut,O J code,I name,O J al,U pa n cap] 43 (0,0)):=hW.Eo _ _ eo (by simp;omega) (by simp);exact⟨af hg 0,af hg 1,af hg 2,af hg 3,af hg 4,af hg 5,af hg 6⟩
 have cE:B<=w0.heap.size:=Ir qO uW.out.size;clear eo du hm;refine(aF B b 2 id bs w0 GI.out (by omega) (by omega) (Ir cE (Kp.size (Kp.refl B b w0)))).mono ?_;rintro e w1 ⟨rfl,h1,an⟩;have mD:Hid (Kp B b w0 w1):=Kp.trans (Kp.refl B b w0) an;have l1:(bs++cz id 2).length<=1002:=by rw[Ij,bo];omega
 obtain⟨D1,TO⟩:∃D,D=bs++cz id 2:=⟨_,rfl⟩;rw[<- TO] at h1 l1;have iR:Hid (D1=bs++cz id 2):=TO;have tV:Hid (bY B b D1 w1):=h1;clear TO h1 an;obtain⟨c0,c1,c2,c3,c4,c5,c6⟩:=HG.out w1 mD.out;go_wp2_with fail;refine(AW id code al ay cut name _ _).mono ?_;rintro e wf ⟨rfl,o,M3⟩;have HIf:Hid (bY B b D1 wf):=(show bY B b D1 wf by rw[M3];exact bY.alloc tV.out _);have Sa:Hid (Kp B b w0 wf):=(show Kp B b w0 wf by rw[M3];exact Kp.trans mD.out (Kp.alloc _ (Ir cE (Kp.size mD.out))));clear M3;obtain⟨x0,x1,x2,x3,x4,x5,x6⟩:=HG.out wf Sa.out;clear c0 c1 c2 c3 c4 c5 c6;have c0:=x0;have c1:=x1;have c2:=x2;have c3:=x3;have c4:=x4;have c5:=x5;have c6:=x6;clear x0 x1 x2 x3 x4 x5 x6;go_wp2_with fail;refine(aF B b 1 (o7 ay cut) D1 wf HIf.out (by omega) (by omega) (Ir cE (Kp.size Sa.out))).mono ?_;rintro e w2 ⟨rfl,h2,aD⟩;have jY:Hid (Kp B b w0 w2):=Kp.trans Sa.out aD;have l2:(D1++cz (o7 ay cut) 1).length<=1003:=by rw[Ij,bo];omega
 obtain⟨D2,M4⟩:∃D,D=D1++cz (o7 ay cut) 1:=⟨_,rfl⟩;rw[<- M4] at h2 l2;have kP:Hid (D2=D1++cz (o7 ay cut) 1):=M4;have uY:Hid (bY B b D2 w2):=h2;clear M4 h2 aD c0 c1 c2 c3 c4 c5 c6;obtain⟨c0,c1,c2,c3,c4,c5,c6⟩:=HG.out w2 jY.out;go_wp2_with fail;refine(aF B b 1 code D2 w2 uY.out (by omega) (by omega) (Ir cE (Kp.size jY.out))).mono ?_;rintro e w3 ⟨rfl,h3,bn⟩;have nF:Hid (Kp B b w0 w3):=Kp.trans jY.out bn;have l3:(D2++cz code 1).length<=1004:=by rw[Ij,bo];omega
 obtain⟨D3,TP⟩:∃D,D=D2++cz code 1:=⟨_,rfl⟩;rw[<- TP] at h3 l3;have Eu:Hid (D3=D2++cz code 1):=TP;have NO:Hid (bY B b D3 w3):=h3;clear TP h3 bn c0 c1 c2 c3 c4 c5 c6;obtain⟨c0,c1,c2,c3,c4,c5,c6⟩:=HG.out w3 nF.out;go_wp2_with fail;refine(aF B b 2 1 D3 w3 NO.out (by omega) (by omega) (Ir cE (Kp.size nF.out))).mono ?_;rintro e w4 ⟨rfl,h4,e9⟩;have tX:Hid (Kp B b w0 w4):=Kp.trans nF.out e9;have l4:(D3++cz 1 2).length<=1006:=by rw[Ij,bo];omega
 obtain⟨D4,TQ⟩:∃D,D=D3++cz 1 2:=⟨_,rfl⟩;rw[<- TQ] at h4 l4;have Sb:Hid (D4=D3++cz 1 2):=TQ;have NP:Hid (bY B b D4 w4):=h4;clear TQ h4 e9 c0 c1 c2 c3 c4 c5 c6;obtain⟨c0,c1,c2,c3,c4,c5,c6⟩:=HG.out w4 tX.out;go_wp2_with fail;refine(aF B b 2 n D4 w4 NP.out (by omega) (by omega) (Ir cE (Kp.size tX.out))).mono ?_;rintro e w5 ⟨rfl,h5,jI⟩;have AG:Hid (Kp B b w0 w5):=Kp.trans tX.out jI;have l5:(D4++cz n 2).length<=1008:=by rw[Ij,bo];omega
 obtain⟨D5,TR⟩:∃D,D=D4++cz n 2:=⟨_,rfl⟩;rw[<- TR] at h5 l5;have TS:Hid (D5=D4++cz n 2):=TR;have TT:Hid (bY B b D5 w5):=h5;clear TR h5 jI c0 c1 c2 c3 c4 c5 c6;obtain⟨c0,c1,c2,c3,c4,c5,c6⟩:=HG.out w5 AG.out;go_wp2_with fail;refine(aF B b 2 0 D5 w5 TT.out (by omega) (by omega) (Ir cE (Kp.size AG.out))).mono ?_;rintro e w6 ⟨rfl,h6,gK⟩;have xt:Hid (Kp B b w0 w6):=Kp.trans AG.out gK;have l6:(D5++cz 0 2).length<=1010:=by rw[Ij,bo];omega
 obtain⟨D6,TU⟩:∃D,D=D5++cz 0 2:=⟨_,rfl⟩;rw[<- TU] at h6 l6;have Sc:Hid (D6=D5++cz 0 2):=TU;have TV:Hid (bY B b D6 w6):=h6;clear TU h6 gK c0 c1 c2 c3 c4 c5 c6;obtain⟨c0,c1,c2,c3,c4,c5,c6⟩:=HG.out w6 xt.out;go_wp2_with fail;refine(aF B b 2 0 D6 w6 TV.out (by omega) (by omega) (Ir cE (Kp.size xt.out))).mono ?_;rintro e w7 ⟨rfl,h7,rF⟩;have xT:Hid (Kp B b w0 w7):=Kp.trans xt.out rF;have l7:(D6++cz 0 2).length<=1012:=by rw[Ij,bo];omega
 obtain⟨D7,TW⟩:∃D,D=D6++cz 0 2:=⟨_,rfl⟩;rw[<- TW] at h7 l7;have HD7:Hid (D7=D6++cz 0 2):=TW;have HI7:Hid (bY B b D7 w7):=h7;clear TW h7 rF c0 c1 c2 c3 c4 c5 c6;obtain⟨c0,c1,c2,c3,c4,c5,c6⟩:=HG.out w7 xT.out;go_wp2_with fail;refine(lZ B b D7 name w7 (ML.kp uX.out xT.out kO) HI7.out (by omega) hn (Ir cE (Kp.size xT.out))).mono ?_;rintro e w8 ⟨rfl,h8,xU⟩;have GJ:Hid (Kp B b w0 w8):=Kp.trans xT.out xU;have l8:(D7++dh name).length<=1261:=by rw[Ij];omega
 obtain⟨D8,Ko⟩:∃D,D=D7++dh name:=⟨_,rfl⟩;rw[<- Ko] at h8 l8;have HD8:Hid (D8=D7++dh name):=Ko;have Xu:Hid (bY B b D8 w8):=h8;clear Ko h8 xU c0 c1 c2 c3 c4 c5 c6;obtain⟨c0,c1,c2,c3,c4,c5,c6⟩:=HG.out w8 GJ.out;go_wp2_with fail;refine(aF B b 2 al D8 w8 Xu.out (by omega) (by omega) (Ir cE (Kp.size GJ.out))).mono ?_;rintro e w9 ⟨rfl,h9,tY⟩;have Sd:Hid (Kp B b w0 w9):=Kp.trans GJ.out tY;have l9:(D8++cz al 2).length<=1263:=by rw[Ij,bo];omega
 obtain⟨D9,TZ⟩:∃D,D=D8++cz al 2:=⟨_,rfl⟩;rw[<- TZ] at h9 l9;have HD9:Hid (D9=D8++cz al 2):=TZ;have HI9:Hid (bY B b D9 w9):=h9;clear TZ h9 tY c0 c1 c2 c3 c4 c5 c6;obtain⟨c0,c1,c2,c3,c4,c5,c6⟩:=HG.out w9 Sd.out;go_wp2_with fail;refine(aF B b 2 1 D9 w9 HI9.out (by omega) (by omega) (Ir cE (Kp.size Sd.out))).mono ?_;rintro e w10 ⟨rfl,h10,lx⟩;have Kr:Hid (Kp B b w0 w10):=Kp.trans Sd.out lx;have l10:(D9++cz 1 2).length<=1265:=by rw[Ij,bo];omega
 obtain⟨D10,AH⟩:∃D,D=D9++cz 1 2:=⟨_,rfl⟩;rw[<- AH] at h10 l10;have NQ:Hid (D10=D9++cz 1 2):=AH;have NR:Hid (bY B b D10 w10):=h10;clear AH h10 lx c0 c1 c2 c3 c4 c5 c6;obtain⟨c0,c1,c2,c3,c4,c5,c6⟩:=HG.out w10 Kr.out;go_wp2_with fail;have HF:Hid (D10=bs++ly id code al ay cut name n):=(show _=_ by rw[NQ.out,HD9.out,HD8.out,HD7.out,Sc.out,TS.out,Sb.out,Eu.out,kP.out,iR.out];simp[ly]);have HIF:Hid (bY B b (bs++ly id code al ay cut name n) w10):=(show bY _ _ _ _ by rw[<- HF.out];exact NR.out);have HKF:Hid (Kp B b w w10):=uW.out.trans Kr.out;have hhl:(bs++ly id code al ay cut name n).length<=1265:=by rw[<- HF.out];exact l10
 have akZ:B<=w10.heap.size:=Ir qO HKF.out.size;obtain⟨H,hH⟩:∃H,H=bs++ly id code al ay cut name n:=⟨_,rfl⟩;rw[<- hH] at hhl HIF;have HH:Hid (H=bs++ly id code al ay cut name n):=hH;clear hH;clear HF iR kP Eu Sb TS Sc HD7 HD8 HD9 NQ tV uY NO NP TT TV HI7 Xu HI9 NR mD jY nF tX AG xt xT GJ Sd HIf Sa l1 l2 l3 l4 l5 l6 l7 l8 l9 l10 c0 c1 c2 c3 c4 c5;go_loopw [44] (λi wr=>∃k:Nat,k<=n/\i=O J k/\Hid (bY B b (H++(rs.take k).flatMap iG) wr)/\Hid (Kp B b w wr)) (λi _=>n-(intOf i).toNat)
 case atStart=>exact⟨0,IF _,rfl,by simpa using HIF,HKF⟩
 case round=>
  obtain⟨k,hk,rfl,HW,NN⟩:=hrel;have M1:B<=wr.heap.size:=Ir qO NN.out.size;have qP:=Es.out k;by_cases aB:k<n
  .obtain⟨bR,off,KA,pX,hr⟩:∃b off,pa=Z ⟨b,off,Y⟩/\b<wr.heap.size/\Rc.Row wr b off rs:=by
    rcases sE.out wr NN.out.uM with h|h
    .have:=Sj.out;rw[h] at this;simp at this;omega
    .exact h
   subst KA;obtain⟨c0,c1,c2,c3,c4,c5,c7⟩:=hr k (by rw[Sj.out];exact aB);have X7:=HTK.out k aB;have oO:=HCS.out k aB;have aeU:Hid ((rs.take (k+1)).flatMap iG=(rs.take k).flatMap iG++iG (rs.getD k Rc.dm)):=X7;have aeV:Hid (bC (rs.getD k Rc.dm)=0):=oO;clear X7 oO hr;generalize rs.getD k Rc.dm=r at *;have hd:decide ((k:Int)<(n:Int))=true:=by simp;omega
   have eP:(0:Int)<=(k:Int):=by omega
   have TN:(k:Int)<(n:Int):=by omega
   have Ea:((k:Int)).toNat=k:=by omega
   go_wp2_with fail;obtain⟨wx,hwx⟩:∃wx,wx=wr.alloc (AI #[I r.name,O J r.al,O J r.aE,O J r.addr,I r.text,O J r.port,I r.target] 64):=⟨_,rfl⟩;rw[<- hwx];have X8:Hid (bY B b (H++(rs.take k).flatMap iG) wx):=(show bY _ _ _ _ by rw[hwx];exact HW.out.alloc _);have HKX:Hid (Kp B b w wx):=(show Kp _ _ _ _ by rw[hwx];exact NN.out.trans (Kp.alloc _ M1));clear hwx c0 c1 c2 c3 c4 c5 c7;refine(yb B b _ r wx (HMW.out.kp HKX.out kO) X8.out (by rw[Ij];omega) aeV.out (Ir qO HKX.out.size) kO).mono ?_;rintro e w12 ⟨rfl,h1,an⟩;have aeX:Hid (bY B b (H++(rs.take (k+1)).flatMap iG) w12):=(show bY _ _ _ _ by rw[aeU.out,<- Jf];exact h1);have aeY:Hid (Kp B b w w12):=HKX.out.trans an;clear h1 an;go_wp2_with fail;exact⟨⟨k+1,by omega,by go_num,aeX,aeY⟩,by simp[intOf];omega⟩
  .have gj:k=n:=by omega
   have HIZ:Hid (bY B b (bs++(ly id code al ay cut name n++rs.flatMap iG)) wr):=(show bY _ _ _ _ by
    have h:=HW.out;rw[gj,KE.out,HH.out,Jf] at h;exact h)
   have hd:decide ((k:Int)<(n:Int))=false:=by simp;omega
   clear gj;go_wp2_with fail;simp[Ji,results,Tryz.results74];exact⟨HIZ.out,NN.out⟩
theorem EF(g:Nat)(id code al:Int)(ay cut:Bool)(name:ByteArray)(w:World)(hg:w.heap[g]?=Z (AI #[O J id,AT ay,AT cut,O J code,I name,O J al,U Y 0 0] 43 (0,0)))(h1:within id 0 65535=true)(h2:within code 0 15=true)(hs:name.size<=Ii)(hn:bQ name=0)(ht:(decide (al=1)||decide (al=16)||decide (al=33))=true) :
 Calls be 27 #[Ig (Z ⟨g,0,Y⟩)] w λr w'=>r=sh (Il #[])/\Below w.heap.size w w':=by
 have HC:Hid (Calls be 28 #[Ip #[O J id,AT ay,AT cut,O J code,I name,O J al,U Y 0 0]] w λr w'=>r=sh (Il #[])/\Below w.heap.size w w'):=pZ id code al ay cut name w h1 h2 hs hn ht;have c0:w.cell? ⟨g,0,Y⟩=Z (O J id):=af hg 0;have c1:w.cell? ⟨g,1,Y⟩=Z (AT ay):=af hg 1;have c2:w.cell? ⟨g,2,Y⟩=Z (AT cut):=af hg 2;have c3:w.cell? ⟨g,3,Y⟩=Z (O J code):=af hg 3;have c4:w.cell? ⟨g,4,Y⟩=Z (I name):=af hg 4;have c5:w.cell? ⟨g,5,Y⟩=Z (O J al):=af hg 5;have c6:w.cell? ⟨g,6,Y⟩=Z (U Y 0 0):=af hg 6;clear h1 h2 hs hn ht hg;go_enter Tryz.func27,Tryz.ntmps27;go_wp2_with fail;refine HC.out.mono ?_;rintro e w1 ⟨rfl,an⟩;have aK:Hid (Below w.heap.size w w1):=an;clear an;go_wp2_with fail;simp[Ji,results,Tryz.results27];exact aK.out
theorem AX(id code al:Int)(ay cut:Bool)(name:ByteArray)(w:World)(hm:ML w)(h1:within id 0 65535=true)(h2:within code 0 15=true)(hs:name.size<=Ii)(hn:bQ name=0)(ht:(decide (al=1)||decide (al=16)||decide (al=33))=true)(hl:(iF id code al ay cut name).length<=512) :
 Calls be 9 #[qQ id code al ay cut name] w λe w'=>e=sh (Il #[I ⟨(iF id code al ay cut name).toArray⟩,O J 0])/\Below w.heap.size w w':=by
 have Na:Hid (∀W,Below w.heap.size w W->Calls be 29 #[qQ id code al ay cut name] W λe w'=>e=sh (I ⟨(iF id code al ay cut name).toArray⟩)/\Below W.heap.size W w'):=λW hW=>wy id code al ay cut name W (hm.below hW) hn;have tU:Hid (∀(g:Nat) (W:World),W.heap[g]?=Z (AI #[O J id,AT ay,AT cut,O J code,I name,O J al,U Y 0 0] 43 (0,0))->Calls be 27 #[Ig (Z ⟨g,0,Y⟩)] W λr w'=>r=sh (Il #[])/\Below W.heap.size W w'):=λg W hg=>EF g id code al ay cut name W hg h1 h2 hs hn ht;have ef:∀args W,(OR 27 args).run be W=.ok (.enter 27 args) W:=enters_of Tryz.func27 (by kernel_rfl) rfl;have hlen:((⟨(iF id code al ay cut name).toArray⟩:ByteArray).size:Int)<=512:=by
  have:(⟨(iF id code al ay cut name).toArray⟩:ByteArray).size=(iF id code al ay cut name).length:=by simp[JP]
  omega
 generalize(⟨(iF id code al ay cut name).toArray⟩:ByteArray)=T at *;clear h1 h2 hs hn ht hl hm;go_enter Tryz.func9,Tryz.ntmps9;go_wp2_with fail;obtain⟨w0,du⟩:∃w0,w0=w.alloc (AI #[O J id,AT ay,AT cut,O J code,I name,O J al,U Y 0 0] 43):=⟨_,rfl⟩;rw[<- du];have eo:w0.heap[w.heap.size]?=Z (AI #[O J id,AT ay,AT cut,O J code,I name,O J al,U Y 0 0] 43 (0,0)):=by rw[du];exact Ie w _
 have dB:Hid (Below w.heap.size w w0):=(show Below _ _ _ by rw[du];exact(Ia _ _).alloc (By _) _);have tZ:w.heap.size<w0.heap.size:=(Ib.1 eo).1;clear du;have kZ:(w0.alloc (AI #[O J 0] 34)).heap[w0.heap.size]?=Z (AI #[O J 0] 34 (0,0)):=Ie w0 _;have kQ:(w0.alloc (AI #[O J 0] 34)).heap[w.heap.size]?=Z (AI #[O J id,AT ay,AT cut,O J code,I name,O J al,U Y 0 0] 43 (0,0)):=(I0 w0 _ _ tZ).trans eo;have hsa:(w0.alloc (AI #[O J 0] 34)).heap.size=w0.heap.size+1:=by simp
 have hY:Hid (Calls be 26 #[I7 (.func 27) #[] #[Ig (Z ⟨w.heap.size,0,Y⟩)]] w0 λr w'=>r=sh (O J 0)/\Below w0.heap.size w0 w'):=(show Calls _ _ _ _ _ by
  refine(j5 27 #[Ig (Z ⟨w.heap.size,0,Y⟩)] w0 (λW=>Below (w0.heap.size+1) (w0.alloc (AI #[O J 0] 34)) W) ef ?_).mono ?_
  .refine(tU.out w.heap.size _ kQ).mono ?_
   rintro r w' ⟨rfl,hb⟩;rw[hsa] at hb;have hk:w'.heap[w0.heap.size]?=Z (AI #[O J 0] 34 (0,0)):=(hb.block _ (by omega)).trans kZ;exact⟨rfl,hb,af hk 0,by simp[Ih,hk],(Ib.1 hk).1⟩
  .rintro r w' ⟨rfl,w1,hR,_,rfl⟩
   exact⟨rfl,(((Ia _ _).alloc (By _) _).trans (hR.mono (by omega))).setCell (p:=⟨w0.heap.size,0,Y⟩) (By _) _⟩)
 have HC:Hid (∀W,Below w0.heap.size w0 W->W.heap[w.heap.size]?=Z (AI #[O J id,AT ay,AT cut,O J code,I name,O J al,U Y 0 0] 43 (0,0))):=λW hW=>(hW.block _ tZ).trans eo;clear kZ kQ hsa eo tU ef;refine hY.out.mono ?_;rintro e w1 ⟨rfl,an⟩;have aK:Hid (Below w.heap.size w w1):=dB.out.trans (an.mono (J4 tZ));have bf:=HC.out w1 an;have c0:w1.cell? ⟨w.heap.size,0,Y⟩=Z (O J id):=af bf 0;have c1:w1.cell? ⟨w.heap.size,1,Y⟩=Z (AT ay):=af bf 1;have c2:w1.cell? ⟨w.heap.size,2,Y⟩=Z (AT cut):=af bf 2;have c3:w1.cell? ⟨w.heap.size,3,Y⟩=Z (O J code):=af bf 3;have c4:w1.cell? ⟨w.heap.size,4,Y⟩=Z (I name):=af bf 4;have c5:w1.cell? ⟨w.heap.size,5,Y⟩=Z (O J al):=af bf 5;have c6:w1.cell? ⟨w.heap.size,6,Y⟩=Z (U Y 0 0):=af bf 6;clear an bf hY HC;go_wp2_with fail;refine(Na.out _ aK.out).mono ?_;rintro e w2 ⟨rfl,aD⟩;have bD:Hid (Below w.heap.size w w2):=aK.out.trans (aD.mono aK.out.size);have EG:decide (512<(T.size:Int))=false:=by simp;omega
 clear aD;go_wp2_with fail;go_ret2;exact⟨rfl,bD.out⟩
def dj(r:Rc.Rec):List UInt8:=cH r.name++(fe r.al 2++(fe 1 2++(fe r.aE 4++(fe (eY r).length 2++eY r))))
def o9(id code al:Int)(ay cut:Bool)(name:ByteArray)(n:Nat):List UInt8:=
 fe id 2++(fe (o7 ay cut) 1++(fe code 1++(fe 1 2++(fe n 2++(fe 0 2++(fe 0 2++(cH name++(fe al 2++fe 1 2))))))))
def dI(id code al:Int)(ay cut:Bool)(name:ByteArray)(rs:List Rc.Rec):List UInt8:=o9 id code al ay cut name rs.length++rs.flatMap dj
theorem AY(r:Rc.Rec):iG r=I1 (dj r):=by
 unfold iG dj;rw[nj];simp only[eR,eQ,gL,OW]
theorem sH:∀(rs:List Rc.Rec),rs.flatMap iG=I1 (rs.flatMap dj)
 |[]=>rfl
 |r::t=>by rw[OH,OH,eR,AY,sH t]
theorem AZ(id code al:Int)(ay cut:Bool)(name:ByteArray)(rs:List Rc.Rec):ly id code al ay cut name rs.length++rs.flatMap iG=I1 (dI id code al ay cut name rs):=by
 unfold ly dI o9;simp only[eR,eQ,gL,sH]
theorem KF(id code al:Int)(ay cut:Bool)(name:ByteArray)(rs:List Rc.Rec):dI id code al ay cut name rs≠[]:=by
 unfold dI o9;simp[fe]
theorem vj:∀{rs:List Rc.Rec},fM rs=0->∀r∈rs,bC r=0
 |[],_,_,h=>by cases h
 |x::t,h0,r,hr=>by
  unfold fM at h0;split at h0
  .rename_i h1
   rcases List.mem_cons.1 hr with rfl|hr
   .exact h1
   .exact vj h0 r hr
  .rename_i h1
   exact absurd h0 h1
theorem cL{id code al:Int}{name:ByteArray}{rs:List Rc.Rec}(h:bc id code al name rs=0):rs.length<=20/\bQ name=0/\∀r∈rs,bC r=0:=by
 unfold bc at h;split at h
 .omega
 split at h
 .omega
 rename_i h2;split at h
 .omega
 rename_i h3;split at h
 .omega
 exact⟨by omega,by omega,vj h⟩
theorem qd(id code al:Int)(ay cut:Bool)(name:ByteArray)(rs:List Rc.Rec)(pa:Option Addr)(cap:Nat)(w:World)(hm:ML w)(hn:bQ name=0)(h20:rs.length<=20)(cJ:∀r∈rs,bC r=0)(dP:∀W,Below w.heap.size w W->rs=[]\/∃b off,pa=Z ⟨b,off,Y⟩/\b<W.heap.size/\Rc.Row W b off rs) :
 Calls be 29 #[Ip #[O J id,AT ay,AT cut,O J code,I name,O J al,U pa rs.length cap]] w λe w'=>e=sh (I ⟨(dI id code al ay cut name rs).toArray⟩)/\Below w.heap.size w w':=by
 have N3:Hid (∀W,ML W->bY (w.heap.size+1) (w.heap.size+1) [] W->Below w.heap.size w W->w.heap.size+1<=W.heap.size->Calls be 74 #[Ig (Z ⟨w.heap.size+1,0,Y⟩),Ip #[O J id,AT ay,AT cut,O J code,I name,O J al,U pa rs.length cap]] W λe w'=>e=sh (Il #[])/\bY (w.heap.size+1) (w.heap.size+1) ([]++(ly id code al ay cut name rs.length++rs.flatMap iG)) w'/\Kp (w.heap.size+1) (w.heap.size+1) W w'):=λW h1 h2 h3 h4=>yd (w.heap.size+1) (w.heap.size+1) [] id code al ay cut name rs pa cap W h1 h2 (by simp) hn h4 (by omega) h20 cJ (λW2 eW=>dP W2 (h3.trans (eW.mono (by omega))));clear dP cJ h20 hn;generalize RW:rs.length=n at *;have Sj:Hid (rs.length=n):=RW;clear RW;go_enter Tryz.func29,Tryz.ntmps29;go_wp2_with fail;obtain⟨w0,du⟩:∃w0,w0=(w.alloc (AI #[O J id,AT ay,AT cut,O J code,I name,O J al,U pa n cap] 43)).alloc (AI #[Ig Y,U Y 0 0] 131):=⟨_,rfl⟩;rw[<- du];have bb:w0.heap.size=w.heap.size+2:=by rw[du];simp
 have Cs:w0.heap[w.heap.size+1]?=Z (AI #[Ig Y,U Y 0 0] 131 (0,0)):=by
  have h:=Ie (w.alloc (AI #[O J id,AT ay,AT cut,O J code,I name,O J al,U pa n cap] 43)) (AI #[Ig Y,U Y 0 0] 131);rw[du];simpa using h
 have dB:Hid (Below w.heap.size w w0):=(show Below _ _ _ by rw[du];exact((Ia _ _).alloc (By _) _).alloc (by simp) _);have GI:Hid (bY (w.heap.size+1) (w.heap.size+1) [] w0):=(show bY _ _ _ _ from .inl ⟨By _,U Y 0 0,Cs,Jj w0 _ 5 1,by simp[I2]⟩);have uX:Hid (ML w0):=(show ML w0 from hm.below dB.out);clear du Cs hm;refine(N3.out w0 uX.out GI.out dB.out (by omega)).mono ?_;rintro e w1 ⟨rfl,h1,an⟩;have tV:Hid (bY (w.heap.size+1) (w.heap.size+1) (I1 (dI id code al ay cut name rs)) w1):=(show bY _ _ _ _ by rw[<- AZ,Sj.out];simpa using h1);have aK:Hid (Below w.heap.size w w1):=dB.out.trans (an.uM.mono (by omega));have cP:=aK.out.size;have jD:=an.size;clear h1 an;go_wp2_with fail;refine(sx (w.heap.size+1) (w.heap.size+1) _ w1 tV.out (KF _ _ _ _ _ _ _)).mono ?_;rintro e w2 ⟨rfl,aD⟩;have bD:Hid (Below w.heap.size w w2):=aK.out.trans (aD.mono (by omega));clear aD;go_wp2_with fail;go_ret;exact⟨rfl,bD.out⟩
def pc(t:ByteArray)(a:Nat)(l:List UInt8):Prop:=∃p q,t.data.toList=p++(l++q)/\p.length=a
theorem pc.left{t:ByteArray}{a:Nat}{l m:List UInt8}(h:pc t a (l++m)):pc t a l:=by
 obtain⟨p,q,h1,h2⟩:=h;exact⟨p,m++q,by rw[h1,Jf],h2⟩
theorem pc.right{t:ByteArray}{a:Nat}{l m:List UInt8}(h:pc t a (l++m)):pc t (a+l.length) m:=by
 obtain⟨p,q,h1,h2⟩:=h;exact⟨p++l,q,by rw[h1];simp,by rw[Ij,h2]⟩
theorem pc.size{t:ByteArray}{a:Nat}{l:List UInt8}(h:pc t a l):a+l.length<=t.size:=by
 obtain⟨p,q,h1,h2⟩:=h;have h3:t.size=t.data.toList.length:=by simp
 rw[h3,h1];simp;omega
theorem pc.get{t:ByteArray}{a:Nat}{l:List UInt8}(h:pc t a l)(k:Nat)(hk:k<l.length):t.data[a+k]?=Z l[k]:=by
 obtain⟨p,q,h1,h2⟩:=h;have h3:t.data[a+k]?=t.data.toList[a+k]?:=by simp
 rw[h3,h1,List.getElem?_append_right (by omega),show a+k-p.length=k by omega,List.getElem?_append_left hk,Ic hk]
theorem pc.extract{t l:ByteArray}{a:Nat}(h:pc t a l.data.toList):t.extract a (a+l.size)=l:=by
 obtain⟨p,q,h1,h2⟩:=h;apply jq;have h3:(t.extract a (a+l.size)).data.toList=(t.data.toList.drop a).take l.size:=by simp
 rw[h3,h1,show(p++(l.data.toList++q)).drop a=l.data.toList++q by rw[<- h2];simp];have h4:l.size=l.data.toList.length:=by simp
 rw[h4];simp
theorem KG(n:Int):∀(j k:Nat) (h:k<j),(fe n j)[k]'(by rw[bA];exact h)=(bt n (j-1-k)).toNat.toUInt8
 |0,k,h=>by omega
 |j+1,0,_=>by simp[fe]
 |j+1,k+1,h=>by
  have ih:=KG n j k (by omega);simp only[fe,List.getElem_cons_succ];rw[ih,show j+1-1-(k+1)=j-1-k by omega]
theorem ye{t:ByteArray}{a:Nat}{n:Int}(h0:0<=n):∀(k j:Nat),k<=j->pc t a (fe n j)->n<256^j->(au t a k:Int)=n/256^(j-k)
 |0,j,_,_,hn=>by
  simp only[au];rw[Int.ediv_eq_zero_of_lt h0 (by simpa using hn)];rfl
 |k+1,j,hk,h,hn=>by
  have ih:=ye h0 k j (by omega) h hn;have hg:=h.get k (by rw[bA];omega);simp only[au,hg,Option.getD_some];have hb:((fe n j)[k]'(by rw[bA];omega))=(bt n (j-1-k)).toNat.toUInt8:=KG n j k (by omega);rw[hb,Int.natCast_add,Int.natCast_mul,ih];have e1:=NT (n:=n) (m:=n/2^(8*(j-1-k))) (j:=j-1-k) rfl;rw[<- e1];have e2:(2:Int)^(8*(j-1-k))=256^(j-(k+1)):=by
   rw[show j-1-k=j-(k+1) by omega,Int.pow_mul];rfl
  have e3:(256:Int)^(j-k)=256^(j-(k+1))*256:=by
   rw[show j-k=(j-(k+1))+1 by omega,Int.pow_succ]
  rw[e2,e3,<- Int.ediv_ediv_of_nonneg (Int.le_of_lt (Int.pow_pos (by decide)))];have:=Int.mul_ediv_add_emod (n/256^(j-(k+1))) 256;omega
theorem cR{t:ByteArray}{a:Nat}{n:Int}{k:Nat}(h0:0<=n)(hn:n<256^k)(h:pc t a (fe n k)):(au t a k:Int)=n:=by
 have h1:=ye h0 k k (By _) h hn;rw[h1,Nat.sub_self,Int.pow_zero,Int.ediv_one]
theorem yf{t:ByteArray}:∀(ls:List ByteArray) (a:Nat),(∀l∈ls,aA l=true)->pc t a (ls.flatMap jK++fe 0 1)->sA t a ls/\behind a ls=a+(ls.flatMap jK).length
 |[],a,_,h=>by
  have h1:pc t a (fe 0 1):=h;have h2:=h1.size;have h3:=cR (n:=0) (by decide) (by decide) h1;rw[bA] at h2;exact⟨⟨h2,by omega⟩,rfl⟩
 |l::r,a,hl,h=>by
  have h30:=sB (hl l JJ);have h1:pc t a (fe l.size 1++(l.data.toList++(r.flatMap jK++fe 0 1))):=by
   have e:(l::r).flatMap jK++fe 0 1=fe l.size 1++(l.data.toList++(r.flatMap jK++fe 0 1)):=by simp[jK]
   rwa [e] at h
  have h2:=cR (n:=l.size) (by omega) (by omega) h1.left;have h3:=h1.right;rw[bA] at h3;have h4:=h3.left.size;have h5:l.data.toList.length=l.size:=by simp
  rw[h5] at h4;have h6:=h3.right;rw[h5] at h6;obtain⟨i1,i2⟩:=yf r (a+1+l.size) (λx hx=>hl x (Oh _ hx)) h6;refine⟨⟨by omega,h4,h3.left.extract,i1⟩,?_⟩;show behind (a+1+l.size) r=_;rw[i2];have h7:(jK l).length=1+l.size:=by simp[jK,bA]
  rw[OH,Ij,h7];omega
theorem rJ{s:ByteArray}(h:bQ s=0):(∀l∈fY s,aA l=true)/\(fY s).length<=8/\s.size<=1000:=by
 refine⟨?_,(jJ h).1,?_⟩
 .rw[uV] at h
  split at h
  .omega
  .rename_i h1
   have h3:(fY s).all aA=true:=by simpa using h1
   exact λl hl=>List.all_eq_true.1 h3 l hl
 .by_cases h0:s.size=0
  .omega
  .unfold bQ at h
   rw[if_neg h0] at h;split at h
   .omega
   .split at h<;>omega
theorem vo(s:ByteArray):mk (jn ((fY s).map vc))=s:=by
 unfold fY;split
 .rename_i h0
  have:=cx h0;subst this;rfl
 .have e:((gH s.data.toList).map mk).map vc=gH s.data.toList:=by
   rw[List.map_map]
   have:(vc∘mk)=id:=by funext x;exact nL x
   rw[this,List.map_id]
  rw[e,Hp,mk_data]
theorem pd(g a:Nat)(s t:ByteArray)(w:World)(h:dA g t a w)(hs:t.size<=1000)(hn:bQ s=0)(cG:pc t a (cH s)) :
 Calls be 102 #[Ig (Z ⟨g,0,Y⟩)] w λe w'=>e=sh (I s)/\Hid (dA g t (a+(cH s).length) w')/\Hid (Rd g w w'):=by
 obtain⟨h1,h2,h3⟩:=rJ hn;obtain⟨i1,i2⟩:=yf (fY s) a h1 cG;have hj:(jn ((fY s).map vc)).length=s.size:=by
  have h4:=congrArg (λx:ByteArray=>x.size) (vo s);simp only[gB] at h4;exact h4
 have hw:(cH s).length=((fY s).flatMap jK).length+1:=by
  unfold cH;rw[Ij,bA]
 have h:=Cy g a (fY s) t w h hs i1 h1 h2 (by omega);rw[vo,i2] at h;rw[hw,<- Nat.add_assoc];exact h
theorem A0(g n:Nat)(E id code al:Int)(ay cut:Bool)(name:ByteArray)(pa:Option Addr)(cap:Nat)(w:World)(hg:w.heap[g]?=Z (AI #[O J id,AT ay,AT cut,O J code,I name,O J al,U pa n cap] 43 (0,0)))(hc:Calls be 28 #[Ip #[O J id,AT ay,AT cut,O J code,I name,O J al,U pa n cap]] w λr w'=>r=dC E/\Below w.heap.size w w') :
 Calls be 27 #[Ig (Z ⟨g,0,Y⟩)] w λr w'=>r=dC E/\Below w.heap.size w w':=by
 have HC:Hid (Calls be 28 #[Ip #[O J id,AT ay,AT cut,O J code,I name,O J al,U pa n cap]] w λr w'=>r=dC E/\Below w.heap.size w w'):=hc;have c0:w.cell? ⟨g,0,Y⟩=Z (O J id):=af hg 0;have c1:w.cell? ⟨g,1,Y⟩=Z (AT ay):=af hg 1;have c2:w.cell? ⟨g,2,Y⟩=Z (AT cut):=af hg 2;have c3:w.cell? ⟨g,3,Y⟩=Z (O J code):=af hg 3;have c4:w.cell? ⟨g,4,Y⟩=Z (I name):=af hg 4;have c5:w.cell? ⟨g,5,Y⟩=Z (O J al):=af hg 5;have c6:w.cell? ⟨g,6,Y⟩=Z (U pa n cap):=af hg 6;clear hc hg;go_enter Tryz.func27,Tryz.ntmps27;go_wp2_with fail;refine HC.out.mono ?_;rintro e w1 ⟨rfl,an⟩;have aK:Hid (Below w.heap.size w w1):=an;clear an;by_cases h0:E=0
 .subst h0
  rw[mZ];go_wp2_with fail;simp[Ji,results,Tryz.results27];exact⟨rfl,aK.out⟩
 .rw[dH h0]
  exact⟨rfl,(dH h0).symm,aK.out⟩
theorem qe(f:Nat)(qM:Array Value)(E:Int)(w:World)(ef:∀args W,(OR f args).run be W=.ok (.enter f args) W)(hc:Calls be f qM (w.alloc (AI #[O J 0] 34)) λr w'=>r=dC E/\Below (w.heap.size+1) (w.alloc (AI #[O J 0] 34)) w') :
 Calls be 26 #[I7 (.func f) #[] qM] w λr w'=>r=sh (O J E)/\Below w.heap.size w w':=by
 have kZ:(w.alloc (AI #[O J 0] 34)).heap[w.heap.size]?=Z (AI #[O J 0] 34 (0,0)):=Ie w _;by_cases h0:E=0
 .subst h0
  refine(j5 f qM w (λW=>Below (w.heap.size+1) (w.alloc (AI #[O J 0] 34)) W) ef (hc.mono ?_)).mono ?_
  .rintro r w' ⟨rfl,hb⟩
   have hk:w'.heap[w.heap.size]?=Z (AI #[O J 0] 34 (0,0)):=(hb.block _ (by omega)).trans kZ;exact⟨rfl,hb,af hk 0,by simp[Ih,hk],(Ib.1 hk).1⟩
  .rintro r w' ⟨rfl,w1,hR,_,rfl⟩
   exact⟨rfl,(((Ia _ _).alloc (By _) _).trans (hR.mono (by omega))).setCell (p:=⟨w.heap.size,0,Y⟩) (By _) _⟩
 .refine(so f qM E w (λW=>Below (w.heap.size+1) (w.alloc (AI #[O J 0] 34)) W) ef (hc.mono ?_)).mono ?_
  .rintro r w' ⟨rfl,hb⟩
   have hk:w'.heap[w.heap.size]?=Z (AI #[O J 0] 34 (0,0)):=(hb.block _ (by omega)).trans kZ;exact⟨dH h0,hb,af hk 0,by simp[Ih,hk],(Ib.1 hk).1⟩
  .rintro r w' ⟨rfl,w1,hR,_,hb⟩
   exact⟨rfl,(((Ia _ _).alloc (By _) _).trans (hR.mono (by omega))).trans hb⟩
def CB(id code al:Int)(ay cut:Bool)(name:ByteArray)(rs:List Rc.Rec):Int:=if bc id code al name rs=0 then(if 512<(dI id code al ay cut name rs).length then 2 else 0) else bc id code al name rs
def Ac(id code al:Int)(ay cut:Bool)(name:ByteArray)(rs:List Rc.Rec):ByteArray:=if bc id code al name rs=0 then(if 512<(dI id code al ay cut name rs).length then⟨#[]⟩ else⟨(dI id code al ay cut name rs).toArray⟩) else⟨#[]⟩
theorem vp{w W:World}{b off:Nat}{rs:List Rc.Rec}(h:Rc.Row w b off rs)(hW:Below w.heap.size w W)(hb:b<w.heap.size):Rc.Row W b off rs:=λj hj=>by
 obtain⟨c0,c1,c2,c3,c4,c5,c6⟩:=h j hj;exact⟨(hW.cell (p:=⟨b,off+j*7,Y⟩) hb).trans c0,(hW.cell (p:=⟨b,off+j*7+1,Y⟩) hb).trans c1,(hW.cell (p:=⟨b,off+j*7+2,Y⟩) hb).trans c2,(hW.cell (p:=⟨b,off+j*7+3,Y⟩) hb).trans c3,(hW.cell (p:=⟨b,off+j*7+4,Y⟩) hb).trans c4,(hW.cell (p:=⟨b,off+j*7+5,Y⟩) hb).trans c5,(hW.cell (p:=⟨b,off+j*7+6,Y⟩) hb).trans c6⟩
theorem EH(id code al:Int)(ay cut:Bool)(name:ByteArray)(rs:List Rc.Rec)(v:Value)(w:World)(hm:ML w)(hs:name.size<=Ii)(hv:Rc.Sl w v rs) :
 Calls be 9 #[Ip #[O J id,AT ay,AT cut,O J code,I name,O J al,v]] w λe w'=>e=sh (Il #[I (Ac id code al ay cut name rs),O J (CB id code al ay cut name rs)])/\Below w.heap.size w w':=by
 have Va:Hid (Rc.Sl w v rs):=hv;obtain⟨pa,cap,rfl,mU,dP⟩:=hv;have sE:Hid (∀W,Below w.heap.size w W->rs=[]\/∃b off,pa=Z ⟨b,off,Y⟩/\b<W.heap.size/\Rc.Row W b off rs):=λW hW=>by
  rcases dP with h|⟨b,off,h1,h2,h3⟩
  .exact .inl h
  .exact .inr ⟨b,off,h1,Iu h2 hW.size,vp h3 hW h2⟩
 have Na:Hid (bc id code al name rs=0->∀W,Below w.heap.size w W->Calls be 29 #[Ip #[O J id,AT ay,AT cut,O J code,I name,O J al,U pa rs.length cap]] W λe w'=>e=sh (I ⟨(dI id code al ay cut name rs).toArray⟩)/\Below W.heap.size W w'):=λhc W hW=>by
  obtain⟨f1,f2,f3⟩:=cL hc;exact qd id code al ay cut name rs pa cap W (hm.below hW) f2 f1 f3 (λW2 eW=>sE.out W2 (hW.trans (eW.mono hW.size)))
 have HC:Hid (∀W,Below w.heap.size w W->Calls be 28 #[Ip #[O J id,AT ay,AT cut,O J code,I name,O J al,U pa rs.length cap]] W λr w'=>r=dC (bc id code al name rs)/\Below W.heap.size W w'):=λW hW=>j9 id code al ay cut name rs _ W hs (Va.out.below hW);have hWL:(⟨(dI id code al ay cut name rs).toArray⟩:ByteArray).size=(dI id code al ay cut name rs).length:=by simp[JP]
 have ef:∀args W,(OR 27 args).run be W=.ok (.enter 27 args) W:=enters_of Tryz.func27 (by kernel_rfl) rfl;have kA:Hid (bc id code al name rs=0->¬ 512<(⟨(dI id code al ay cut name rs).toArray⟩:ByteArray).size->Ac id code al ay cut name rs=⟨(dI id code al ay cut name rs).toArray⟩/\CB id code al ay cut name rs=0):=λh1 h2=>by
  rw[hWL] at h2;unfold Ac CB;rw[if_pos h1,if_pos h1,if_neg h2,if_neg h2];exact⟨rfl,rfl⟩
 have j8:Hid (bc id code al name rs=0->512<(⟨(dI id code al ay cut name rs).toArray⟩:ByteArray).size->Ac id code al ay cut name rs=⟨#[]⟩/\CB id code al ay cut name rs=2):=λh1 h2=>by
  rw[hWL] at h2;unfold Ac CB;rw[if_pos h1,if_pos h1,if_pos h2,if_pos h2];exact⟨rfl,rfl⟩
 have rG:Hid (bc id code al name rs≠0->Ac id code al ay cut name rs=⟨#[]⟩/\CB id code al ay cut name rs=bc id code al name rs):=λh1=>by
  unfold Ac CB;rw[if_neg h1,if_neg h1];exact⟨rfl,rfl⟩
 clear hm hs mU dP sE Va hWL;generalize bc id code al name rs=E at *;generalize(⟨(dI id code al ay cut name rs).toArray⟩:ByteArray)=T at *;generalize Ac id code al ay cut name rs=RT at *;generalize CB id code al ay cut name rs=RE at *;generalize rs.length=n at *;go_enter Tryz.func9,Tryz.ntmps9;go_wp2_with fail;obtain⟨w0,du⟩:∃w0,w0=w.alloc (AI #[O J id,AT ay,AT cut,O J code,I name,O J al,U pa n cap] 43):=⟨_,rfl⟩;rw[<- du];have eo:w0.heap[w.heap.size]?=Z (AI #[O J id,AT ay,AT cut,O J code,I name,O J al,U pa n cap] 43 (0,0)):=by rw[du];exact Ie w _
 have dB:Hid (Below w.heap.size w w0):=(show Below _ _ _ by rw[du];exact(Ia _ _).alloc (By _) _);have tZ:w.heap.size<w0.heap.size:=(Ib.1 eo).1;clear du;have hY:Hid (Calls be 26 #[I7 (.func 27) #[] #[Ig (Z ⟨w.heap.size,0,Y⟩)]] w0 λr w'=>r=sh (O J E)/\Below w0.heap.size w0 w'):=(show Calls _ _ _ _ _ by
  refine qe 27 #[Ig (Z ⟨w.heap.size,0,Y⟩)] E w0 ef ?_;have h:=A0 w.heap.size n E id code al ay cut name pa cap (w0.alloc (AI #[O J 0] 34)) ((I0 w0 _ _ tZ).trans eo) (HC.out _ (dB.out.alloc (J4 tZ) _));simpa using h)
 have HCB:Hid (∀W,Below w0.heap.size w0 W->W.heap[w.heap.size]?=Z (AI #[O J id,AT ay,AT cut,O J code,I name,O J al,U pa n cap] 43 (0,0))):=λW hW=>(hW.block _ tZ).trans eo;clear eo ef HC;refine hY.out.mono ?_;rintro e w1 ⟨rfl,an⟩;have aK:Hid (Below w.heap.size w w1):=dB.out.trans (an.mono (J4 tZ));have bf:=HCB.out w1 an;have c0:w1.cell? ⟨w.heap.size,0,Y⟩=Z (O J id):=af bf 0;have c1:w1.cell? ⟨w.heap.size,1,Y⟩=Z (AT ay):=af bf 1;have c2:w1.cell? ⟨w.heap.size,2,Y⟩=Z (AT cut):=af bf 2;have c3:w1.cell? ⟨w.heap.size,3,Y⟩=Z (O J code):=af bf 3;have c4:w1.cell? ⟨w.heap.size,4,Y⟩=Z (I name):=af bf 4;have c5:w1.cell? ⟨w.heap.size,5,Y⟩=Z (O J al):=af bf 5;have c6:w1.cell? ⟨w.heap.size,6,Y⟩=Z (U pa n cap):=af bf 6;clear an bf hY HCB;by_cases h0:E=0
 .have KH:=Na.out h0 w1 aK.out
  have ae0:Hid (Calls be 29 #[Ip #[O J id,AT ay,AT cut,O J code,I name,O J al,U pa n cap]] w1 λe w'=>e=sh (I T)/\Below w1.heap.size w1 w'):=KH;clear KH;have h1:(E !=0)=false:=by simpa using h0
  have H1:=kA.out h0;have H2:=j8.out h0;subst h0;clear h1 kA j8 rG;have K1:Hid (¬ 512<T.size->RT=T/\RE=0):=H1;have K2:Hid (512<T.size->RT=⟨#[]⟩/\RE=2):=H2;clear H1 H2;go_wp2_with fail;refine ae0.out.mono ?_;rintro e w2 ⟨rfl,aD⟩;have bD:Hid (Below w.heap.size w w2):=aK.out.trans (aD.mono aK.out.size);clear aD;by_cases hT:512<T.size
  .obtain⟨e1,e2⟩:=K2.out hT
   have EG:decide (512<(T.size:Int))=true:=by simp;omega
   go_wp2_with fail;go_ret2;exact⟨by rw[e1,e2];rfl,bD.out⟩
  .obtain⟨e1,e2⟩:=K1.out hT
   have EG:decide (512<(T.size:Int))=false:=by simp;omega
   go_wp2_with fail;go_ret2;exact⟨by rw[e1,e2];rfl,bD.out⟩
 .have h1:(E !=0)=true:=by simpa using h0
  have K3:Hid (RT=⟨#[]⟩/\RE=E):=rG.out h0;go_wp2_with fail;go_ret2;exact⟨by rw[K3.out.1,K3.out.2];rfl,aK.out⟩
theorem KI{id code al:Int}{name:ByteArray}{rs:List Rc.Rec}(h:bc id code al name rs=0):(0<=id/\id<=65535)/\(0<=code/\code<=15)/\(0<=al/\al<=33):=by
 unfold bc at h;split at h
 .omega
 rename_i h1;split at h
 .omega
 split at h
 .omega
 split at h
 .omega
 rename_i h4;have GN:(within id 0 65535&&within code 0 15)=true:=by simpa using h1
 have h4':gZ al=true:=by simpa using h4
 simp only[within,Bool.and_eq_true,decide_eq_true_eq] at GN;simp only[gZ,Bool.or_eq_true,decide_eq_true_eq] at h4';exact⟨GN.1,GN.2,by omega,by omega⟩
def wD(id code al:Int)(ay cut:Bool)(name:ByteArray)(rs:List Rc.Rec)(n:Nat):List UInt8:=dI id code al ay (cut||decide (n<rs.length)) name (rs.take n)
def pj(f:Nat->List UInt8)(size:Int):Nat->Option (List UInt8)
 |0=>if((f 0).length:Int)<=size then Z (f 0) else Y
 |k+1=>if((f (k+1)).length:Int)<=size then Z (f (k+1)) else pj f size k
def pt(id code al:Int)(ay cut:Bool)(name:ByteArray)(rs:List Rc.Rec)(size:Int):Int:=
 if within size 12 512=false then 3
 else if bc id code al name rs=0 then(if(pj (wD id code al ay cut name rs) size rs.length).isSome then 0 else 2)
 else bc id code al name rs
def qU(id code al:Int)(ay cut:Bool)(name:ByteArray)(rs:List Rc.Rec)(size:Int):ByteArray:=
 if within size 12 512=false then⟨#[]⟩
 else if bc id code al name rs=0 then⟨((pj (wD id code al ay cut name rs) size rs.length).getD []).toArray⟩
 else⟨#[]⟩
theorem yg{f:Nat->List UInt8}{size:Int}:∀{n j:Nat},j<=n->(∀i,j<i->i<=n->size<((f i).length:Int))->((f j).length:Int)<=size->pj f size n=Z (f j)
 |0,j,hj,_,h=>by
  obtain rfl:j=0:=by omega
  simp only[pj,if_pos h]
 |n+1,j,hj,hi,h=>by
  rcases Nat.lt_or_ge n j with h1|h1
  .obtain rfl:j=n+1:=by omega
   simp only[pj,if_pos h]
  .have h2:=hi (n+1) (by omega) (by omega)
   simp only[pj];rw[if_neg (by omega)];exact yg h1 (λi h3 h4=>hi i h3 (by omega)) h
theorem CC{f:Nat->List UInt8}{size:Int}:∀{n:Nat},(∀i,i<=n->size<((f i).length:Int))->pj f size n=Y
 |0,hi=>by
  have h:=hi 0 (by omega);simp only[pj];rw[if_neg (by omega)]
 |n+1,hi=>by
  have h:=hi (n+1) (by omega);simp only[pj];rw[if_neg (by omega)];exact CC (λi h3=>hi i (by omega))
theorem KJ{w:World}{b off:Nat}{rs:List Rc.Rec}(h:Rc.Row w b off rs)(n:Nat):Rc.Row w b off (rs.take n):=λj hj=>by
 have h1:j<rs.length:=by rw[IA] at hj;omega
 have h2:(rs.take n).getD j Rc.dm=rs.getD j Rc.dm:=by
  have h3:j<n:=by rw[IA] at hj;omega
  simp[Io,h3]
 rw[h2];exact h j h1
theorem KK(g n:Nat)(E id code al:Int)(ay cut:Bool)(name:ByteArray)(pa:Option Addr)(cap:Nat)(w:World)(hg:w.heap[g]?=Z (AI #[O J id,AT ay,AT cut,O J code,I name,O J al,U pa n cap] 43 (0,0)))(hc:Calls be 28 #[Ip #[O J id,AT ay,AT cut,O J code,I name,O J al,U pa n cap]] w λr w'=>r=dC E/\Below w.heap.size w w') :
 Calls be 191 #[Ig (Z ⟨g,0,Y⟩)] w λr w'=>r=dC E/\Below w.heap.size w w':=by
 have HC:Hid (Calls be 28 #[Ip #[O J id,AT ay,AT cut,O J code,I name,O J al,U pa n cap]] w λr w'=>r=dC E/\Below w.heap.size w w'):=hc;have c0:w.cell? ⟨g,0,Y⟩=Z (O J id):=af hg 0;have c1:w.cell? ⟨g,1,Y⟩=Z (AT ay):=af hg 1;have c2:w.cell? ⟨g,2,Y⟩=Z (AT cut):=af hg 2;have c3:w.cell? ⟨g,3,Y⟩=Z (O J code):=af hg 3;have c4:w.cell? ⟨g,4,Y⟩=Z (I name):=af hg 4;have c5:w.cell? ⟨g,5,Y⟩=Z (O J al):=af hg 5;have c6:w.cell? ⟨g,6,Y⟩=Z (U pa n cap):=af hg 6;clear hc hg;go_enter Tryz.func191,Tryz.ntmps191;go_wp2_with fail;refine HC.out.mono ?_;rintro e w1 ⟨rfl,an⟩;have aK:Hid (Below w.heap.size w w1):=an;clear an;by_cases h0:E=0
 .subst h0
  rw[mZ];go_wp2_with fail;simp[Ji,results,Tryz.results191];exact⟨rfl,aK.out⟩
 .rw[dH h0]
  exact⟨rfl,(dH h0).symm,aK.out⟩
theorem N6(id code al size:Int)(ay cut:Bool)(name:ByteArray)(rs:List Rc.Rec)(pa:Option Addr)(cap:Nat)(w:World)(hm:ML w)(hs:name.size<=Ii)(hv:Rc.Sl w (U pa rs.length cap) rs)(Hx:rs.length<=cap) :
 Calls be 137 #[Ip #[O J id,AT ay,AT cut,O J code,I name,O J al,U pa rs.length cap],O J size] w λe w'=>e=sh (Il #[I (qU id code al ay cut name rs size),O J (pt id code al ay cut name rs size)])/\Below w.heap.size w w':=by
 have Va:Hid (Rc.Sl w (U pa rs.length cap) rs):=hv;obtain⟨X9,ak2,heq,mU,dP⟩:=hv;injection heq with q1 q2 q3;subst q1;clear q2 q3;have sE:Hid (∀W,Below w.heap.size w W->rs=[]\/∃b off,pa=Z ⟨b,off,Y⟩/\b<W.heap.size/\Rc.Row W b off rs):=λW hW=>by
  rcases dP with h|⟨b,off,h1,h2,h3⟩
  .exact .inl h
  .exact .inr ⟨b,off,h1,Iu h2 hW.size,vp h3 hW h2⟩
 have Na:Hid (bc id code al name rs=0->∀W,Below w.heap.size w W->∀j,j<=rs.length->Calls be 29 #[Ip #[O J id,AT ay,AT (cut||decide (j<rs.length)),O J code,I name,O J al,U pa j cap]] W λe w'=>e=sh (I ⟨(wD id code al ay cut name rs j).toArray⟩)/\Below W.heap.size W w'):=λhc W hW j hj=>by
  obtain⟨f1,f2,f3⟩:=cL hc;have hl:(rs.take j).length=j:=by rw[IA];omega
  have h:=qd id code al ay (cut||decide (j<rs.length)) name (rs.take j) pa cap W (hm.below hW) f2 (by omega) (λr hr=>f3 r (JV hr)) (λW2 eW=>by
   rcases sE.out W2 (hW.trans (eW.mono hW.size)) with h|⟨b,off,h1,h2,h3⟩
   .exact .inl (by rw[h];simp)
   .exact .inr ⟨b,off,h1,h2,KJ h3 j⟩)
  rw[hl] at h;exact h
 have HC:Hid (∀W,Below w.heap.size w W->Calls be 28 #[Ip #[O J id,AT ay,AT cut,O J code,I name,O J al,U pa rs.length cap]] W λr w'=>r=dC (bc id code al name rs)/\Below W.heap.size W w'):=λW hW=>j9 id code al ay cut name rs _ W hs (Va.out.below hW);have ef:∀args W,(OR 191 args).run be W=.ok (.enter 191 args) W:=enters_of Tryz.func191 (by kernel_rfl) rfl;have K0:Hid (within size 12 512=false->qU id code al ay cut name rs size=⟨#[]⟩/\pt id code al ay cut name rs size=3):=λh=>by
  unfold qU pt;rw[if_pos h,if_pos h];exact⟨rfl,rfl⟩
 have K1:Hid (within size 12 512=true->bc id code al name rs≠0->qU id code al ay cut name rs size=⟨#[]⟩/\pt id code al ay cut name rs size=bc id code al name rs):=λh h1=>by
  unfold qU pt;rw[if_neg (by simp[h]),if_neg h1,if_neg (by simp[h]),if_neg h1];exact⟨rfl,rfl⟩
 have K2:Hid (within size 12 512=true->bc id code al name rs=0->∀j,j<=rs.length->(∀i,j<i->i<=rs.length->size<((wD id code al ay cut name rs i).length:Int))->((wD id code al ay cut name rs j).length:Int)<=size->qU id code al ay cut name rs size=⟨(wD id code al ay cut name rs j).toArray⟩/\pt id code al ay cut name rs size=0):=λh h1 j hj hi hl=>by
  unfold qU pt;rw[if_neg (by simp[h]),if_pos h1,if_neg (by simp[h]),if_pos h1,yg hj hi hl];exact⟨rfl,rfl⟩
 have K3:Hid (within size 12 512=true->bc id code al name rs=0->(∀i,i<=rs.length->size<((wD id code al ay cut name rs i).length:Int))->qU id code al ay cut name rs size=⟨#[]⟩/\pt id code al ay cut name rs size=2):=λh h1 hi=>by
  unfold qU pt;rw[if_neg (by simp[h]),if_pos h1,if_neg (by simp[h]),if_pos h1,CC hi];exact⟨rfl,rfl⟩
 have aaa:Hid (bc id code al name rs=0->rs.length<=20):=λh=>(cL h).1;have ae1:Hid (0<rs.length->∃b off,pa=Z ⟨b,off,Y⟩):=λh=>by
  rcases dP with h1|⟨b,off,h1,_⟩
  .rw[h1] at h;simp at h
  .exact⟨b,off,h1⟩
 clear hm hs mU dP sE Va;generalize bc id code al name rs=E at *;generalize qU id code al ay cut name rs size=RT at *;generalize pt id code al ay cut name rs size=RE at *;generalize wD id code al ay cut name rs=f at *;generalize rs.length=n at *;go_enter Tryz.func137,Tryz.ntmps137;go_wp2_with fail;obtain⟨w0,du,-,-,eo⟩:=eC w #[O J id,AT ay,AT cut,O J code,I name,O J al,U pa n cap] 43;have dB:Hid (Below w.heap.size w w0):=(show Below _ _ _ by rw[du];exact(Ia _ _).alloc (By _) _);have tZ:w.heap.size<w0.heap.size:=(Ib.1 eo).1;rw[<- du];clear du;refine(bw _ _ _ _).mono ?_;rintro e w00 ⟨rfl,ae2⟩;subst ae2;by_cases hwi:within size 12 512=false
 .obtain⟨e1,e2⟩:=K0.out hwi
  rw[hwi];go_wp2_with fail;go_ret2;exact⟨by rw[e1,e2];rfl,dB.out⟩
 have hwt:within size 12 512=true:=by simpa using hwi
 have mD:Hid (E≠0->RT=⟨#[]⟩/\RE=E):=K1.out hwt;have jY:Hid (E=0->∀j,j<=n->(∀i,j<i->i<=n->size<((f i).length:Int))->((f j).length:Int)<=size->RT=⟨(f j).toArray⟩/\RE=0):=K2.out hwt;have nF:Hid (E=0->(∀i,i<=n->size<((f i).length:Int))->RT=⟨#[]⟩/\RE=2):=K3.out hwt;rw[hwt];clear K0 K1 K2 K3 hwi hwt;have hY:Hid (Calls be 26 #[I7 (.func 191) #[] #[Ig (Z ⟨w.heap.size,0,Y⟩)]] w00 λr w'=>r=sh (O J E)/\Below w00.heap.size w00 w'):=(show Calls _ _ _ _ _ by
  refine qe 191 #[Ig (Z ⟨w.heap.size,0,Y⟩)] E w00 ef ?_;have h:=KK w.heap.size n E id code al ay cut name pa cap (w00.alloc (AI #[O J 0] 34)) ((I0 w00 _ _ tZ).trans eo) (HC.out _ (dB.out.alloc (J4 tZ) _));simpa using h)
 clear ef HC;go_wp2_with fail;refine hY.out.mono ?_;rintro e w1 ⟨rfl,an⟩;have aK:Hid (Below w.heap.size w w1):=dB.out.trans (an.mono (J4 tZ));have bf:w1.heap[w.heap.size]?=Z (AI #[O J id,AT ay,AT cut,O J code,I name,O J al,U pa n cap] 43 (0,0)):=(an.block _ tZ).trans eo;clear an eo hY;by_cases h0:E=0
 .have KH:Hid (∀W,Below w.heap.size w W->∀j,j<=n->Calls be 29 #[Ip #[O J id,AT ay,AT (cut||decide (j<n)),O J code,I name,O J al,U pa j cap]] W λe w'=>e=sh (I ⟨(f j).toArray⟩)/\Below W.heap.size W w'):=Na.out h0
  have HJ2:Hid (∀j,j<=n->(∀i,j<i->i<=n->size<((f i).length:Int))->((f j).length:Int)<=size->RT=⟨(f j).toArray⟩/\RE=0):=jY.out h0;have HJ3:Hid ((∀i,i<=n->size<((f i).length:Int))->RT=⟨#[]⟩/\RE=2):=nF.out h0;have nW:=aaa.out h0;clear Na mD jY nF aaa;subst h0;have M8:(cut||decide (n<n))=cut:=by simp
  have tU:=KH.out w1 aK.out n (By _);rw[M8] at tU;have M0:Hid (Calls be 29 #[Ip #[O J id,AT ay,AT cut,O J code,I name,O J al,U pa n cap]] w1 λe w'=>e=sh (I ⟨(f n).toArray⟩)/\Below w1.heap.size w1 w'):=tU;clear tU;have c0:w1.cell? ⟨w.heap.size,0,Y⟩=Z (O J id):=af bf 0;have c1:w1.cell? ⟨w.heap.size,1,Y⟩=Z (AT ay):=af bf 1;have c2:w1.cell? ⟨w.heap.size,2,Y⟩=Z (AT cut):=af bf 2;have c3:w1.cell? ⟨w.heap.size,3,Y⟩=Z (O J code):=af bf 3;have c4:w1.cell? ⟨w.heap.size,4,Y⟩=Z (I name):=af bf 4;have c5:w1.cell? ⟨w.heap.size,5,Y⟩=Z (O J al):=af bf 5;have c6:w1.cell? ⟨w.heap.size,6,Y⟩=Z (U pa n cap):=af bf 6;have dX:w.heap.size<w1.heap.size:=(Ib.1 bf).1;go_wp2_with fail;refine M0.out.mono ?_;rintro e w2 ⟨rfl,aD⟩;have bD:Hid (Below w.heap.size w w2):=aK.out.trans (aD.mono aK.out.size);have oP:Hid (w2.heap[w.heap.size]?=Z (AI #[O J id,AT ay,AT (cut||decide (n<n)),O J code,I name,O J al,U pa n cap] 43 (0,0))):=(show _=_ by rw[M8];exact(aD.block _ dX).trans bf);have d6:w2.cell? ⟨w.heap.size,6,Y⟩=Z (U pa n cap):=af oP.out 6;clear aD bf M0 c0 c1 c2 c3 c4 c5 c6 M8;go_wp2_with fail;clear d6;go_loopw [7,8] (λsv nv wr=>∃j:Nat,j<=n/\sv=I ⟨(f j).toArray⟩/\nv=O J j/\Hid (Below w.heap.size w wr)/\Hid (wr.heap[w.heap.size]?=Z (AI #[O J id,AT ay,AT (cut||decide (j<n)),O J code,I name,O J al,U pa j cap] 43 (0,0)))/\Hid (∀i,j<i->i<=n->size<((f i).length:Int))) (λ_ nv _=>(intOf nv).toNat)
  case atStart=>exact⟨n,By _,rfl,rfl,bD,oP,λi h1 h2=>by omega⟩
  case round=>
   obtain⟨j,hj,rfl,rfl,xR,uu,HI⟩:=hrel;have bb:=xR.out.size;have hlw:w.heap.size<wr.heap.size:=(Ib.1 uu.out).1;have Sk:(⟨(f j).toArray⟩:ByteArray).size=(f j).length:=by simp[JP]
   by_cases ui:size<((f j).length:Int)
   .by_cases MZ:j=0
    .have KE:Hid (∀i,i<=n->size<((f i).length:Int)):=λi hi=>by
      rcases Nat.eq_zero_or_pos i with h|h
      .rw[h,<- MZ];exact ui
      .exact HI.out i (by omega) hi
     obtain⟨e1,e2⟩:=HJ3.out KE.out;have lY:decide (size<((⟨(f j).toArray⟩:ByteArray).size:Int))=true:=by rw[Sk];simpa using ui
     have En:decide (0<j)=false:=by simp;omega
     generalize(⟨(f j).toArray⟩:ByteArray)=T at *;clear Sk ui MZ;go_wp2_with fail;go_ret2;exact⟨by rw[e1,e2];rfl,xR.out⟩
    .have lY:decide (size<((⟨(f j).toArray⟩:ByteArray).size:Int))=true:=by rw[Sk];simpa using ui
     have En:decide ((0:Int)<(j:Int))=true:=by simp;omega
     have uY:Hid (∀i,j-1<i->i<=n->size<((f i).length:Int)):=λi h1 h2=>by
      rcases Nat.lt_or_ge j i with h|h
      .exact HI.out i h h2
      .obtain rfl:i=j:=by omega
       exact ui
     obtain⟨b,off,KA⟩:=ae1.out (by omega);subst KA;generalize(⟨(f j).toArray⟩:ByteArray)=T at *;clear Sk ui HI;have c0:wr.cell? ⟨w.heap.size,0,Y⟩=Z (O J id):=af uu.out 0;have c1:wr.cell? ⟨w.heap.size,1,Y⟩=Z (AT ay):=af uu.out 1;have c2:wr.cell? ⟨w.heap.size,2,Y⟩=Z (AT (cut||decide (j<n))):=af uu.out 2;have c3:wr.cell? ⟨w.heap.size,3,Y⟩=Z (O J code):=af uu.out 3;have c4:wr.cell? ⟨w.heap.size,4,Y⟩=Z (I name):=af uu.out 4;have c5:wr.cell? ⟨w.heap.size,5,Y⟩=Z (O J al):=af uu.out 5;have c6:wr.cell? ⟨w.heap.size,6,Y⟩=Z (U (Z ⟨b,off,Y⟩) j cap):=af uu.out 6;have z2:wr.frozen? ⟨w.heap.size,2,Y⟩=false:=by simp[Ih,uu.out]
     have z6:wr.frozen? ⟨w.heap.size,6,Y⟩=false:=by simp[Ih,uu.out]
     obtain⟨k,hk⟩:∃k,k=j-1:=⟨_,rfl⟩;have M5:(j:Int)=(k:Int)+1:=by omega
     have Se:IntKind.i64.wrap ((j:Int)-1)=(k:Int):=by rw[IntKind.wrap_i64];omega
     have N7:((j:Int)-1)=(k:Int):=by omega
     have hk0:(0:Int)<=(k:Int):=by omega
     have hk1:(k:Int)<=(cap:Int):=by omega
     have rD:((k:Int)).toNat=k:=by omega
     have hcut:(cut||decide (k<n))=true:=by simp;right;omega
     have uv:Hid (Below w.heap.size w ((wr.setCell ⟨w.heap.size,6,Y⟩ (U (Z ⟨b,off,Y⟩) (j-1) cap)).setCell ⟨w.heap.size,2,Y⟩ (AT true))):=(xR.out.setCell (p:=⟨w.heap.size,6,Y⟩) (By _) _).setCell (p:=⟨w.heap.size,2,Y⟩) (By _) _;have HGW:Hid (((wr.setCell ⟨w.heap.size,6,Y⟩ (U (Z ⟨b,off,Y⟩) (j-1) cap)).setCell ⟨w.heap.size,2,Y⟩ (AT true)).heap[w.heap.size]?=Z (AI #[O J id,AT ay,AT true,O J code,I name,O J al,U (Z ⟨b,off,Y⟩) (j-1) cap] 43 (0,0))):=Joins.block_setCell (i:=2) (Joins.block_setCell (i:=6) uu.out _) _;have hlW:w.heap.size<((wr.setCell ⟨w.heap.size,6,Y⟩ (U (Z ⟨b,off,Y⟩) (j-1) cap)).setCell ⟨w.heap.size,2,Y⟩ (AT true)).heap.size:=by simpa using hlw
     have yh:=KH.out ((wr.setCell ⟨w.heap.size,6,Y⟩ (U (Z ⟨b,off,Y⟩) (j-1) cap)).setCell ⟨w.heap.size,2,Y⟩ (AT true)) uv.out (j-1) (by omega);rw[show(cut||decide (j-1<n))=true by rw[<- hk];exact hcut] at yh;have HWL:Hid (Calls be 29 #[Ip #[O J id,AT ay,AT true,O J code,I name,O J al,U (Z ⟨b,off,Y⟩) (j-1) cap]] ((wr.setCell ⟨w.heap.size,6,Y⟩ (U (Z ⟨b,off,Y⟩) (j-1) cap)).setCell ⟨w.heap.size,2,Y⟩ (AT true)) λe w'=>e=sh (I ⟨(f (j-1)).toArray⟩)/\Below ((wr.setCell ⟨w.heap.size,6,Y⟩ (U (Z ⟨b,off,Y⟩) (j-1) cap)).setCell ⟨w.heap.size,2,Y⟩ (AT true)).heap.size ((wr.setCell ⟨w.heap.size,6,Y⟩ (U (Z ⟨b,off,Y⟩) (j-1) cap)).setCell ⟨w.heap.size,2,Y⟩ (AT true)) w'):=yh;clear yh;go_wp2_with fail;refine HWL.out.mono ?_;rintro e w9 ⟨rfl,tY⟩;have rI:Hid (Below w.heap.size w w9):=uv.out.trans (tY.mono (J4 hlW));have HG9:Hid (w9.heap[w.heap.size]?=Z (AI #[O J id,AT ay,AT (cut||decide (j-1<n)),O J code,I name,O J al,U (Z ⟨b,off,Y⟩) (j-1) cap] 43 (0,0))):=(show _=_ by
      rw[show(cut||decide (j-1<n))=true by rw[<- hk];exact hcut];exact(tY.block _ hlW).trans HGW.out)
     clear tY c0 c1 c2 c3 c4 c5 c6 z2 z6;go_wp2_with fail;exact⟨⟨j-1,by omega,rfl,by first|rfl|(rw[<- hk,N7])|go_num,rI,HG9,uY⟩,by simp[intOf];omega⟩
   .obtain⟨e1,e2⟩:=HJ2.out j hj HI.out (by omega)
    have lY:decide (size<((⟨(f j).toArray⟩:ByteArray).size:Int))=false:=by rw[Sk];simpa using ui
    generalize(⟨(f j).toArray⟩:ByteArray)=T at *;clear Sk ui;go_wp2_with fail;go_ret2;exact⟨by rw[e1,e2];rfl,xR.out⟩
 .obtain⟨e1,e2⟩:=mD.out h0
  have h1:(E !=0)=true:=by simpa using h0
  go_wp2_with fail;go_ret2;exact⟨by rw[e1,e2];rfl,aK.out⟩
end Go.Proofs.YtfidjlcdlakceaaGreatDoor
