import Derived.Test.YtbfghimjdlpicaaGreatDoorna29
set_option maxHeartbeats 12800000
set_option maxRecDepth 100000
open Go.Value renaming int→U,pointer→If,tuple→Ip,bool→Ia,func→IQ,slice→J
open Go.IntKind renaming i64→O
open Option renaming none→be,some→AI
open Go.Ending renaming returned→AT
open Go.Proofs.Tryz renaming prog→AS
open Go.World renaming block_lt_of_cell?→Iw
namespace Go.Proofs.YtbfghimjdlpicaaGreatDoor
open Go.RowKit Go.WideMaps Go.Maps
theorem Kt(g:Nat)(k:Int)(w:World)(hw:(Lit.int .i64 k).wf=true)(hf:wL (vB g w.heap.size) k=be)(hg:w.cell? ⟨g,2,be⟩=AI (U O k)) :
 Calls AS 23 #[If (AI ⟨g,0,be⟩)] w λe w'=>e=AT (U O 7)/\Below w.heap.size w w':=by
 have dv:=Iw w _ hg;have HH:Hid (Calls AS 41 #[If (AI ⟨g,0,be⟩)] w.drew λe w1=>∃mb,e=AT (.map (AI mb))/\(Instr.lookup 94 (.map (AI mb)) (U O k) true).run AS w1=.ok (Ip #[.nilFunc,Ia false]) w1/\w1.cell? ⟨g,2,be⟩=AI (U O k)/\Hid (Below w.heap.size w w1)):=by
  refine(lg g w.drew).mono ?_;rintro e w1 ⟨rfl,hm,hp,hb⟩;have aC:=(Below.refl _ _).drew.trans hb;have hl:=hm.look hw;rw[show wL (vB g w.drew.heap.size) k=be from hf] at hl;exact⟨_,rfl,hl,(aC.cell (p:=⟨g,2,be⟩) dv).trans hg,aC⟩
 have tW:Hid (w.heap.size<w.heap.size+1):=Nat.lt_succ_self _;clear dv hf hw;go_enter Tryz.func23,Tryz.ntmps23;go_wp2_with fail;go_region_held3 (λw'=>w'.cell? ⟨g,2,be⟩=AI (U O k)) (go_keep) (first|(go_at_call 41;refine HH.out.mono ?_;rintro e w1 ⟨mb,rfl,kb,hS,aZ⟩)|fail)
 go_wp2_with fail;go_ret;exact⟨rfl,aZ.out⟩
theorem Ku(kf:Nat)(fs cs:Array Value)(g:Nat)(k:Int)(w:World)(hw:(Lit.int .i64 k).wf=true)(hf:wL (vB g w.heap.size) k=AI (IQ (.func kf) fs cs))(hg:w.cell? ⟨g,2,be⟩=AI (U O k))(hT:∀W,Below w.heap.size w W->Calls AS 42 #[If (AI ⟨g,0,be⟩)] W λe w'=>e=AT (Ia false)/\Below W.heap.size W w') :
 Calls AS 23 #[If (AI ⟨g,0,be⟩)] w λe w'=>e=AT (U O 5)/\Below w.heap.size w w':=by
 have dv:=Iw w _ hg;have HH:Hid (Calls AS 41 #[If (AI ⟨g,0,be⟩)] w.drew λe w1=>∃mb,e=AT (.map (AI mb))/\(Instr.lookup 94 (.map (AI mb)) (U O k) true).run AS w1=.ok (Ip #[IQ (.func kf) fs cs,Ia true]) w1/\w1.cell? ⟨g,2,be⟩=AI (U O k)/\Hid (Below w.heap.size w w1)):=by
  refine(lg g w.drew).mono ?_;rintro e w1 ⟨rfl,hm,hp,hb⟩;have aC:=(Below.refl _ _).drew.trans hb;have hl:=hm.look hw;rw[show wL (vB g w.drew.heap.size) k=AI (IQ (.func kf) fs cs) from hf] at hl;exact⟨_,rfl,hl,(aC.cell (p:=⟨g,2,be⟩) dv).trans hg,aC⟩
 have tW:Hid (w.heap.size<w.heap.size+1):=Nat.lt_succ_self _;have HT:Hid _:=hT;clear hT dv hf hw;go_enter Tryz.func23,Tryz.ntmps23;go_wp2_with fail;go_region_held3 (λw'=>w'.cell? ⟨g,2,be⟩=AI (U O k)) (go_keep) (first|(go_at_call 41;refine HH.out.mono ?_;rintro e w1 ⟨mb,rfl,kb,hS,aZ⟩)|fail)
 go_wp2_with fail;refine(HT.out _ aZ.out).mono ?_;rintro e w2 ⟨rfl,aL⟩;have bA:Hid _:=aZ.out.trans (aL.mono aZ.out.size);clear aL kb hS aZ HT HH;go_wp2_with fail;go_ret;exact⟨rfl,bA.out⟩
theorem vT(c:Int)(hc:c=3\/c=4\/c=5)(g m:Nat)(a:Option Addr)(cap:Nat)(x:Int)(w:World)(h1:w.cell? ⟨g,1,be⟩=AI (J a m cap))(h2:w.cell? ⟨g,2,be⟩=AI (U O c))(h3:w.cell? ⟨g,3,be⟩=AI (U O x))(hm:m<=20) :
 Calls AS 42 #[If (AI ⟨g,0,be⟩)] w λe w'=>e=AT (Ia (within x 0 ((m:Int)-1)))/\Below w.heap.size w w':=by
 have hz:IntKind.i64.wrap ((m:Int)-1)=(m:Int)-1:=by rw[IntKind.wrap_i64];omega
 have HWI:Hid (∀W:World,Calls _ _ _ _ _):=λW=>cM x 0 ((m:Int)-1) W;generalize within x 0 ((m:Int)-1)=b at *;rcases hc with rfl|rfl|rfl;all_goals
  go_enter Tryz.func42,Tryz.ntmps42;go_wp2_with fail;have F1:=cell_regrown h1;have F3:=cell_regrown h3;have C0:∀d os,Calls AS 51 #[U O x,U O 0,U O ((m:Int)-1)] (Go.Sort.grow (redrawn w d) os) λe fR=>e=AT (Ia b)/\∃p:Regrown,fR=Go.Sort.grow (redrawn w p.d) p.os:=λd os=>Calls.regrown_of ((HWI.out _).mono (λe w' h=>⟨h.1,by rw[h.2];exact Below.refl _ _⟩));refine wp_region_quiet_below (by kernel_rfl) (by kernel_rfl) ?_;repeat(quiet_step (exact C0 _ _))
  refine bu λdq gW dF=>?_;clear C0 F1 F3;go_wp2_with fail;go_ret;exact⟨rfl,dF.out⟩
theorem XL(c:Int)(hc:c=6\/c=7\/c=8\/c=10\/c=11\/c=12)(g n:Nat)(a:Option Addr)(cap:Nat)(x:Int)(w:World)(h0:w.cell? ⟨g,0,be⟩=AI (J a n cap))(h2:w.cell? ⟨g,2,be⟩=AI (U O c))(h3:w.cell? ⟨g,3,be⟩=AI (U O x))(hn:n<=6) :
 Calls AS 42 #[If (AI ⟨g,0,be⟩)] w λe w'=>e=AT (Ia (within x 0 ((n:Int)-1)))/\Below w.heap.size w w':=by
 have H1:=λ(_:Unit)=>nD g n a cap x w h0 hn;generalize within x 0 ((n:Int)-1)=b at *;have H1:Hid _:=H1;clear hn;rcases hc with rfl|rfl|rfl|rfl|rfl|rfl;all_goals
  go_enter Tryz.func42,Tryz.ntmps42;go_wp2_with fail;refine(H1.out ()).mono ?_;rintro e w1 ⟨rfl,aC⟩;have aZ:Hid _:=aC;clear aC;go_wp2_with fail;go_ret;exact⟨rfl,aZ.out⟩
theorem zW(c:Int)(hc:c=1\/c=2\/c=9)(g n:Nat)(a:Option Addr)(cap:Nat)(x y:Int)(w:World)(h0:w.cell? ⟨g,0,be⟩=AI (J a n cap))(h2:w.cell? ⟨g,2,be⟩=AI (U O c))(h3:w.cell? ⟨g,3,be⟩=AI (U O x))(h4:w.cell? ⟨g,4,be⟩=AI (U O y))(hn:n<=6) :
 Calls AS 42 #[If (AI ⟨g,0,be⟩)] w λe w'=>e=AT (Ia (within x 0 ((n:Int)-1)&&within y 0 ((n:Int)-1)))/\Below w.heap.size w w':=by
 have dv:=Iw w _ h0;have H1:=λ(_:Unit)=>nD g n a cap x w h0 hn;have H2:=λ(W:World) (hW:Below w.heap.size w W)=>nD g n a cap y W ((hW.cell (p:=⟨g,0,be⟩) dv).trans h0) hn;have HG:Hid (∀W,Below w.heap.size w W->W.cell? ⟨g,4,be⟩=AI (U O y)):=λW hW=>(hW.cell (p:=⟨g,4,be⟩) dv).trans h4;generalize within x 0 ((n:Int)-1)=b1 at *;generalize within y 0 ((n:Int)-1)=b2 at *;have H1:Hid _:=H1;have H2:Hid _:=H2;clear hn dv;cases b1
 .rcases hc with rfl|rfl|rfl
  all_goals
   go_enter Tryz.func42,Tryz.ntmps42;go_wp2_with fail;refine(H1.out ()).mono ?_;rintro e w1 ⟨rfl,aC⟩;have aZ:Hid _:=aC;clear aC;go_wp2_with fail;go_ret;exact⟨rfl,aZ.out⟩
 .rcases hc with rfl|rfl|rfl
  all_goals
   go_enter Tryz.func42,Tryz.ntmps42;go_wp2_with fail;refine(H1.out ()).mono ?_;rintro e w1 ⟨rfl,aC⟩;have aZ:Hid _:=aC;have g4:=HG.out w1 aC;clear aC;go_wp2_with fail;refine(H2.out w1 aZ.out).mono ?_;rintro e w2 ⟨rfl,aL⟩;have bA:Hid _:=aZ.out.trans (aL.mono aZ.out.size);clear aL;go_wp2_with fail;go_ret;exact⟨rfl,bA.out⟩
theorem sd(kf:Nat)(fs cs:Array Value)(eg:∀args w,(callFunc kf args).run AS w=.ok (.enter kf args) w)(g:Nat)(k:Int)(R:Int->World->Prop)(w:World)(hw:(Lit.int .i64 k).wf=true)(hf:wL (vB g w.heap.size) k=AI (IQ (.func kf) fs cs))(hg:w.cell? ⟨g,2,be⟩=AI (U O k))(hT:∀W,Below w.heap.size w W->Calls AS 42 #[If (AI ⟨g,0,be⟩)] W λe w'=>e=AT (Ia true)/\Below W.heap.size W w')(hF:∀W,Below w.heap.size w W->W.heap[w.heap.size]?=AI (.cells #[If (AI ⟨g,0,be⟩)] 71 (0,0))->Calls AS kf (fs++cs) W λe w'=>∃er,e=AT (U O er)/\R er w') :
 Calls AS 23 #[If (AI ⟨g,0,be⟩)] w λe w'=>∃er,e=AT (U O er)/\R er w':=by
 have dv:=Iw w _ hg;have HH:Hid (Calls AS 41 #[If (AI ⟨g,0,be⟩)] w.drew λe w1=>∃mb,e=AT (.map (AI mb))/\(Instr.lookup 94 (.map (AI mb)) (U O k) true).run AS w1=.ok (Ip #[IQ (.func kf) fs cs,Ia true]) w1/\w1.cell? ⟨g,2,be⟩=AI (U O k)/\Hid (Below w.heap.size w w1/\w1.heap[w.heap.size]?=AI (.cells #[If (AI ⟨g,0,be⟩)] 71 (0,0)))):=by
  refine(lg g w.drew).mono ?_;rintro e w1 ⟨rfl,hm,hp,hb⟩;have aC:=(Below.refl _ _).drew.trans hb;have hl:=hm.look hw;rw[show wL (vB g w.drew.heap.size) k=AI (IQ (.func kf) fs cs) from hf] at hl;exact⟨_,rfl,hl,(aC.cell (p:=⟨g,2,be⟩) dv).trans hg,aC,hp⟩
 have HT:Hid _:=hT;have HF:Hid _:=hF;have tW:Hid (w.heap.size<w.heap.size+1):=Nat.lt_succ_self _;clear hT hF dv hf hw;go_enter Tryz.func23,Tryz.ntmps23;go_wp2_with fail;go_region_held3 (λw'=>w'.cell? ⟨g,2,be⟩=AI (U O k)) (go_keep) (first|(go_at_call 41;refine HH.out.mono ?_;rintro e w1 ⟨mb,rfl,kb,hS,aZ⟩)|fail)
 go_wp2_with fail;refine(HT.out _ aZ.out.1).mono ?_;rintro e w2 ⟨rfl,aL⟩;have pQ:=(aL.block _ (Array.getElem?_eq_some_iff.1 aZ.out.2).1).trans aZ.out.2;have HC:=HF.out w2 (aZ.out.1.trans (aL.mono aZ.out.1.size)) pQ;clear aL pQ kb hS aZ HF HT HH;go_wp2_with fail;refine HC.mono ?_;rintro e w3 ⟨er,rfl,hr⟩;go_wp2_with fail;go_ret;exact⟨er,rfl,hr⟩
end Go.Proofs.YtbfghimjdlpicaaGreatDoor
