import Derived.Test.YtdjaajjndfbpmaaGreatDoorWP
import Derived.Test.YtdjaajjndfbpmaaGreatDoorWS
import Derived.Test.YtdjaajjndfbpmaaGreatDoorWK
set_option linter.unusedVariables false
set_option maxHeartbeats 8000000
set_option maxRecDepth 100000
namespace Go.Proofs.YtdjaajjndfbpmaaGreatDoor
open Proofs.Tryz
open Go.RowKit
open G (H6 jf)
open G.T (F2 P6 X3 F3)
variable {E:Env} {n:ByteArray} {d d':Dd} {fs:List F2} {ms:List M3}
theorem XG (a:X3 fs) (b:H6 fs ms) (c:J2 n.data.toList=true) (h:Xc (P5 fs ms) n d) (e:Yz fs n d'):d'=d:=by
 rcases e with ⟨_,_,ms',h1,h2⟩ | ⟨h1 | h1,_⟩
 · obtain rfl:=G.o_ b h1
   exact Ki (zb a b) h2 h
 · exact absurd a h1
 rw [c] at h1;cases h1
end Go.Proofs.YtdjaajjndfbpmaaGreatDoor
namespace Go.Proofs.YtdjaajjndfbpmaaGreatDoor
open Proofs.Tryz
open Go.RowKit
open G (H6 jf)
open G.T (F2 P6 X3 F3)
variable {n:ByteArray} {d d':Dd} {fs:List F2} {ms:List M3} {ds ds':List Dd}
theorem xG (h:Yz fs n d) (a:Yz fs n d'):d.r=d'.r:=by
 rcases h with ⟨h1,h2,ms,h3,f⟩ | ⟨h1,h2,h3⟩
 · rw [XG h1 h3 h2 f a]
 rcases a with ⟨e,c,_⟩ | ⟨_,_,b⟩
 · rcases h1 with h | h
   · exact absurd e h
   rw [c] at h;cases h
 rw [h3,b]
def qM (fs:List F2) (n:ByteArray) (ds:List Dd):Prop:=(X3 fs/\J2 n.data.toList=true/\∃ ms,H6 fs ms/\Wh (P5 fs ms) n ds)\/((¬ X3 fs\/J2 n.data.toList=false)/\ds=[])
theorem jI (h:qM fs n ds) (f:qM fs n ds'):ds=ds':=by
 rcases h with ⟨h1,h2,ms,h3,e⟩ | ⟨h1,h2⟩ <;> rcases f with ⟨b,a,ms',d,c⟩ | ⟨b,a⟩
 · obtain rfl:=G.o_ h3 d
   exact xE (zb h1 h3) e c
 · rcases b with h | h
   · exact absurd h1 h
   rw [h2] at h;cases h
 · rcases h1 with h | h
   · exact absurd b h
   rw [a] at h;cases h
 rw [h2,a]
theorem pM (h:qM fs n ds):ds.length<=481/\∀ d∈ds,X3 fs/\J2 d.nm.data.toList=true/\d.ls.length<=15/\∃ ms,H6 fs ms/\Xc (P5 fs ms) d.nm d:=by
 rcases h with ⟨h1,h2,ms,h3,b⟩ | ⟨h1,rfl⟩
 · have hE:=zb h1 h3
   refine ⟨fE hE (by show (ms.map toM).length<=30;rw [qc];exact Fa h3) b,fun d a=>⟨h1,VA hE h2 ((b.mem _).1 (D9.2 ⟨d,a,rfl⟩)),(Vl hE (b.ok d a)).1,ms,h3,b.ok d a⟩⟩
 exact ⟨X0,fun d a=>by cases a⟩
theorem MB (h:¬ (X3 fs/\J2 n.data.toList=true)):¬ X3 fs\/J2 n.data.toList=false:=by
 by_cases a:X3 fs
 · exact .inr (by cases b:J2 n.data.toList;rfl;exact absurd ⟨a,b⟩ h)
 exact .inl a
theorem wQ (a:Option Addr) (cap:Nat) (fs:List F2) (nm:ByteArray) (w:World) (l:fs.length<=1048576) (j:∀ i,(fs.getD i P6).le 1048576) (g:F3 w a fs) (k:nm.size<=1048576) (b:Std w):
 Calls prog 5 #[.agg #[.slice a fs.length cap],.string nm] w fun e w'=>(∃ v xs,e=.returned v/\P_ w.heap.size v xs w'/\qM fs nm (xs.map (·.d)))/\Below w.heap.size w w':=by
 by_cases h:X3 fs/\J2 nm.data.toList=true
 · obtain ⟨ms,f⟩:=sj fs
   refine (EQ a cap fs ms nm w g h.1 f h.2 b.vz b.sh b.mx b.ten).mono ?_;rintro e w' ⟨⟨v,c,xs,h1,h2⟩,h3⟩;exact ⟨⟨v,xs,c,h1,.inl ⟨h.1,h.2,ms,f,h2⟩⟩,h3⟩
 refine (QQ a cap fs nm w l j g k (MB h)).mono ?_;rintro e w' ⟨⟨v,c,h1⟩,h3⟩;exact ⟨⟨v,[],c,h1,.inr ⟨MB h,rfl⟩⟩,h3⟩
theorem XP (a:Option Addr) (cap:Nat) (fs:List F2) (nm:ByteArray) (w:World) (k:fs.length<=1048576) (g:∀ i,(fs.getD i P6).le 1048576) (f:F3 w a fs) (j:nm.size<=1048576):
 Calls prog 7 #[.agg #[.slice a fs.length cap],.string nm] w fun e w'=>(∃ v xs,e=.returned v/\P_ w.heap.size v xs w'/\qM fs nm (xs.map (·.d)))/\Below w.heap.size w w':=by
 by_cases h:X3 fs/\J2 nm.data.toList=true
 · obtain ⟨ms,c⟩:=sj fs
   refine (PQ a cap fs ms nm w f h.1 c h.2).mono ?_;rintro e w' ⟨⟨v,b,xs,h1,h2⟩,h3⟩;exact ⟨⟨v,xs,b,h1,.inl ⟨h.1,h.2,ms,c,h2⟩⟩,h3⟩
 refine (XQ a cap fs nm w k g f j (MB h)).mono ?_;rintro e w' ⟨⟨v,b,h1⟩,h3⟩;exact ⟨⟨v,[],b,h1,.inr ⟨MB h,rfl⟩⟩,h3⟩
theorem Std.below {w w':World} (h:Std w) (a:Below w.heap.size w w'):Std w':=⟨h.vz.below a,o9 h.sh a,f_ h.mx a,Z4 h.ten a.size⟩
end Go.Proofs.YtdjaajjndfbpmaaGreatDoor
namespace Go.Proofs.YtdjaajjndfbpmaaGreatDoor
open Proofs.Tryz
open Go.RowKit
open G (H6 jf Oa Ia)
open G.T (F2 P6 X3 F3)
def Xo (P:Prop) (e:Ending):Prop:=∃ b:Bool,e=.returned (.bool b)/\(b=true↔P)
theorem Av {P:Prop} (h:P):Xo P (.returned (.bool true)):=⟨true,rfl,fun _=>h,fun _=>rfl⟩
theorem Xb {P:Prop} (h:¬ P):Xo P (.returned (.bool false)):=⟨false,rfl,(fun c=>by cases c),fun c=>absurd c h⟩
structure FH (w:World) (T D:Nat) (A:Value) (x:De) (u:World):Prop where
 b:Below w.heap.size w u
 h0:Cl u T 25 [A]
 h1:Cl u D 50 x.vs
variable {w u u':World} {T D:Nat} {A lv:Value} {x:De} {d:Dd}
theorem FH.below (h:FH w T D A x u) (a:Below u.heap.size u u'):FH w T D A x u':=⟨h.b.trans (a.mono h.b.size),h.h0.below a h.h0.lt,h.h1.below a h.h1.lt⟩
theorem FH.cells (h:FH w T D A ⟨d,lv⟩ u):u.cell? ⟨T,0,none⟩=some A/\u.cell? ⟨D,0,none⟩=some (.string d.nm)/\u.cell? ⟨D,1,none⟩=some (.bool d.md)/\u.cell? ⟨D,2,none⟩=some (.string d.m.nm)/\u.cell? ⟨D,3,none⟩=some (.string d.m.tl)/\u.cell? ⟨D,4,none⟩=some (.string d.m.ar)/\u.cell? ⟨D,5,none⟩=some lv/\u.cell? ⟨D,6,none⟩=some (.int .i64 d.r.code)/\u.cell? ⟨D,7,none⟩=some (.string d.r.tx):=
 ⟨h.h0.cell 0,h.h1.cell 0,h.h1.cell 1,h.h1.cell 2,h.h1.cell 3,h.h1.cell 4,h.h1.cell 5,h.h1.cell 6,h.h1.cell 7⟩
theorem FH.s4 (h:FH w T D A ⟨d,lv⟩ u):u.cell? ⟨T,0,none⟩=some A/\u.cell? ⟨D,0,none⟩=some (.string d.nm)/\u.cell? ⟨D,6,none⟩=some (.int .i64 d.r.code)/\u.cell? ⟨D,7,none⟩=some (.string d.r.tx):=⟨h.h0.cell 0,h.h1.cell 0,h.h1.cell 6,h.h1.cell 7⟩
theorem KN {fs:List F2} {ms:List M3} {nm t:ByteArray} {c:Int} (a:X3 fs) (b:Ia ms nm) (h:(c=0/\∃ i,i<fs.length/\(fs.getD i P6).nm=nm/\t=(fs.getD i P6).tx)\/(c=4/\t=nm/\Oa fs nm)):(P5 fs ms).pl nm=some ⟨c,t⟩:=by
 show (jf fs ms nm).map Rq=_;rcases h with ⟨rfl,i,h1,h2,rfl⟩ | ⟨rfl,rfl,h⟩
 · rw [G.Ti a h1 h2];rfl
 rw [G.Li h b];rfl
def BH (E:Env) (x:M.L4):Prop:=x.has=true->(x.cd=0↔(E.sn x.nm).code=0)
theorem XK {E:Env} {d:Dd} (h:d.md=false) (a:E.pl d.nm=none):¬ Zv E d:=fun c=>by
 rcases c with ⟨_,c⟩ | ⟨c,_⟩
 · rw [a] at c;cases c
 rw [h] at c;cases c
def oP (ms:List M3) (nm:ByteArray) (x:M3) (th:Bool):Prop:=(th=true/\∃ i,i<ms.length/\ms.getD i N7=x/\x.nm=nm)\/(th=false/\∀ j,j<ms.length->(ms.getD j N7).nm≠nm)
theorem MJ {fs:List F2} {ms:List M3} {nm:ByteArray} {y m:M3} {ls:List M.L4} {r:R2} {wt:ByteArray} (a:X3 fs) (b:H6 fs ms) (h:oP ms nm y true):¬ Zv (P5 fs ms) ⟨nm,false,m,ls,r,wt⟩:=by
 rcases h with ⟨_,i,f,e,d⟩ | ⟨c,_⟩
 · exact XK rfl (((zb a b).made _).2 ⟨_,jd.2 ⟨i,f,rfl⟩,by rw [e];exact d⟩)
 cases c
theorem DJ {fs:List F2} {ms:List M3} {nm:ByteArray} {y m:M3} {ls:List M.L4} {r:R2} {wt:ByteArray} (h:oP ms nm y false):¬ Zv (P5 fs ms) ⟨nm,true,m,ls,r,wt⟩:=fun c=>by
 rcases h with ⟨c,_⟩ | ⟨_,h⟩
 · cases c
 rcases c with ⟨c,_⟩ | ⟨_,h1,h2,_⟩
 · cases c
 obtain ⟨i,a,e⟩:=jd.1 h1;exact h i a (by have:=V3 (·.nm) e;exact this.trans h2)
theorem iF {fs:List F2} {ms:List M3} {nm:ByteArray} {y:M3} (h:oP ms nm y true):y∈(P5 fs ms).ms/\y.nm=nm:=by
 rcases h with ⟨_,i,b,e,a⟩ | ⟨c,_⟩
 · exact ⟨jd.2 ⟨i,b,by rw [e];rfl⟩,a⟩
 cases c
theorem fB {E:Env} {a yt:ByteArray} {yc:Int} {r:Bool} (h:r=true↔(E.sn a).code=0):((yc==0)=r)↔BH E ⟨true,a,yc,yt⟩:=by
 constructor
 · intro e _
   show yc=0↔_;rw [<- h,<- e];simp
 intro k;have k:=k rfl;rw [<- h] at k;cases r <;> simp_all
theorem kQ (a pa:Option Addr) (cap pc:Nat) (fs:List F2) (ms:List M3) (x:De) (la:Option Addr) (lc:Nat) (w:World) (hv:x.lv=.slice la x.d.ls.length lc) (hl:x.d.ls.length<=15) (hlk:M.Ac w la x.d.ls) (ht:X3 fs) (hp:H6 fs ms) (hat:F3 w a fs) (aT:G.Ad w pa ms):
 Calls prog 29 #[.agg #[.slice a fs.length cap],.slice pa ms.length pc,.agg #[.string x.d.nm,.bool x.d.md,.string x.d.m.nm,.string x.d.m.tl,.string x.d.m.ar,.slice la x.d.ls.length lc,.int .i64 x.d.r.code,.string x.d.r.tx]] w fun e w'=>Xo (Zv (P5 fs ms) x.d) e/\Below w.heap.size w w':=by
 obtain ⟨⟨nm,md,⟨i,g,l⟩,ls,⟨rc,rt⟩,wt⟩,lv⟩:=x;dsimp only at hv hl hlk ⊢;subst hv;have VR:=Q0 hlk;have HAT:=Q0 hat;have HAM:=Q0 aT;have X:=Q0 ht;have HP:=Q0 hp;have h30:=Fa hp;clear hlk hat aT ht hp;go_enter func29,ntmps29
 go_wp2_with fail
 obtain ⟨W,hW⟩:∃ W:World,W=(w.alloc (.cells #[.slice a fs.length cap] 25)).alloc (.cells #[.string nm,.bool md,.string i,.string g,.string l,.slice la ls.length lc,.int .i64 rc,.string rt] 50):=⟨_,rfl⟩;rw [<- hW];have H:Hid (FH w w.heap.size (w.heap.size+1) (.slice a fs.length cap) ⟨⟨nm,md,⟨i,g,l⟩,ls,⟨rc,rt⟩,wt⟩,.slice la ls.length lc⟩ W):=by
  rw [hW];exact ⟨bA.alloc X0 _,J_ (U1 w [_] 25) _,Uf (xs:=[_,_,_,_,_,_,_,_]) X0⟩
 clear hW;refine (G.c51 pa pc ms nm W O0 (G.X_ HAM.out H.out.b) (G.Lf HP.out)).mono ?_;rintro e w1 ⟨⟨⟨n,R,U⟩,th,rfl,hx⟩,A⟩;have P:=Q0 (H.out.below A);have HX:=Q0 hx;clear H hx A;obtain ⟨q0,O,N,L,J,I,F,E,D⟩:=P.out.cells;dsimp only at O N L J I F E D;have hz:=P.out.h1.lt;have hmk:True:=trivial;cases md <;> cases th
 · have YY:Hid (Ia ms nm):=by
    rcases HX.out with ⟨c,_⟩ | ⟨_,h⟩
    · cases c
    exact h
   clear HX
   go_upto_region 5 with fail
   obtain ⟨q,s⟩:∃ y:World,y=(w1.alloc (.cells #[.string n,.string R,.string U] 47)).drew:=⟨_,rfl⟩;have hb0:Below w1.heap.size w1 q:=by rw [s];exact bA.drew
   have V:=Q0 (P.out.below hb0);clear q0 O N L J I F E D P;refine F7 (S:=fun u=>u.cell? ⟨w.heap.size,0,none⟩=some (.slice a fs.length cap)/\u.cell? ⟨w.heap.size+1,0,none⟩=some (.string nm)/\u.cell? ⟨w.heap.size+1,6,none⟩=some (.int .i64 rc)/\u.cell? ⟨w.heap.size+1,7,none⟩=some (.string rt)) U2 ?_ fun f=>?_
   · rw [<- s]
     exact V.out.s4
   rw [<- s] at f ⊢;clear s hb0;refine tq 0 f ?_;refine tq 1 f ?_;refine tq 2 f ?_;refine tq 3 f ?_;refine I4 4 f ?_;refine rq 5 fun K hK=>?_;go_simp;refine (G.qO a cap fs nm q X.out.1 (G.T.U0 HAT.out V.out.b) (G.T.di X.out)).mono ?_;rintro e Z ⟨⟨c,t,rfl,hx⟩,A⟩;have C:=Q0 (V.out.below A);have HE:=Q0 (KN X.out YY.out hx);clear hx A V;go_simp;clear f;refine Z6 hK C.out.s4 fun f=>?_;clear hK K;have Y:Hid ((rc=c/\rt=t)↔Zv (P5 fs ms) ⟨nm,false,⟨i,g,l⟩,ls,⟨rc,rt⟩,wt⟩):=⟨fun ⟨h1,h2⟩=>.inl ⟨rfl,by rw [h1,h2];exact HE.out⟩,fun h=>by
    rcases h with ⟨_,h⟩ | ⟨h,_⟩
    · have h:=HE.out.symm.trans h
      injection h with h;injection h with h1 h2;exact ⟨h1.symm,h2.symm⟩
    cases h⟩
   by_cases o:rc=c/\rt=t
   · have p:=Q0 (Y.out.1 o)
     obtain ⟨rfl,rfl⟩:=o;refine tq (v:=.bool true) 6 f ?_ (hv:=by intro u hu;simp [go_sem]);refine I4 7 f ?_;refine a_ ?_;clear f;go_wp2;go_ret;exact ⟨Av p.out,C.out.b⟩
   have p:=Q0 (fun h=>o (Y.out.2 h));have hq':¬ (rc=c/\rt.toList=t.toList):=fun ⟨h1,h2⟩=>o ⟨h1,(M.Gf _ _).1 h2⟩;have hq2:(rc==c&&rt.toList==t.toList)=false:=by simpa using hq'
   refine tq (v:=.bool false) 6 f ?_ (hv:=by intro u hu;simp [go_sem] <;> first | exact hq2 | simpa using hq');refine I4 7 f ?_;refine a_ ?_;clear f;go_wp2;go_ret;exact ⟨Xb p.out,C.out.b⟩
 · have HN:=Q0 (MJ (m:=⟨i,g,l⟩) (ls:=ls) (r:=⟨rc,rt⟩) (wt:=wt) X.out HP.out HX.out)
   go_wp2;go_ret;exact ⟨Xb HN.out,P.out.b.alloc O0 _⟩
 · have HN:=Q0 (DJ (fs:=fs) (m:=⟨i,g,l⟩) (ls:=ls) (r:=⟨rc,rt⟩) (wt:=wt) HX.out)
   go_wp2;go_ret;exact ⟨Xb HN.out,P.out.b.alloc O0 _⟩
 obtain ⟨hme,hxn⟩:=iF (fs:=fs) HX.out;have hxn:n=nm:=hxn;subst hxn;have UV:=Q0 hme;clear hme HX
 go_upto_region 6 with fail
 obtain ⟨q,s⟩:∃ y:World,y=w1.alloc (.cells #[.string n,.string R,.string U] 47):=⟨_,rfl⟩;have hb0:Below w1.heap.size w1 q:=by rw [s];exact bA
 have HM:Hid (Cl q w1.heap.size 47 [.string n,.string R,.string U]):=by show Cl _ _ _ _;rw [s];exact U1 w1 _ 47
 have V:=Q0 (P.out.below hb0);rw [<- s];clear q0 O N L J I F E D P s hb0;generalize w1.heap.size=B at*;obtain ⟨q0,O,N,L,J,I,F,E,D⟩:=V.out.cells;dsimp only at O N L J I F E D
 go_wp2_with fail
 clear q0 O N L J I F E D;go_loopw [34] (fun r wr=>∃ k:Nat,r=.int .i64 k/\k<=ls.length/\Hid (Below q.heap.size q wr)/\Hid (∀ j,j<k->BH (P5 fs ms) (ls.getD j M.Ga))) (fun r _=>ls.length - (intOf r).toNat)
 case atStart=>exact ⟨0,rfl,I5 _,F4 _ _,fun j h=>absurd h (F5 _)⟩
 obtain ⟨k,rfl,hk,HB,HD⟩:=hrel;have C:=Q0 (V.out.below HB.out);have HMr:=Q0 (HM.out.below HB.out HM.out.lt);have HB0:=Q0 (show Below q.heap.size q wr from HB.out);clear HB;by_cases hlt:k<ls.length;rotate_left
 · obtain ⟨q0,O,N,L,J,I,F,E,D⟩:=C.out.cells
   have m0:=HMr.out.cell 0;have m1:=HMr.out.cell 1;have m2:=HMr.out.cell 2;dsimp only [List.getElem?_cons_zero,List.getElem?_cons_succ] at O N L J I F E D m0 m1 m2;have Y:Hid (i=n/\g=R/\l=U↔Zv (P5 fs ms) ⟨n,true,⟨i,g,l⟩,ls,⟨rc,rt⟩,wt⟩):=⟨fun ⟨h1,h2,h3⟩=>.inr ⟨rfl,by show (⟨i,g,l⟩:M3)∈_;rw [h1,h2,h3];exact UV.out,h1,fun y hy=>by
    obtain ⟨j,hj,rfl⟩:=Lb hy;have:=HD.out j (by have hj:j<ls.length:=hj;omega);rw [show ls.getD j M.Ga=ls[j] from by have hj:j<ls.length:=hj;simp [List.getD,hj]] at this;exact this⟩,fun h=>by
    rcases h with ⟨h,_⟩ | ⟨_,h1,h2,_⟩
    · cases h
    have e:=(zb X.out HP.out).one _ _ h1 UV.out h2;injection e with e1 e2 e3;exact ⟨e1,e2,e3⟩⟩
   by_cases o:i=n/\g=R/\l=U
   · have p:=Q0 (Y.out.1 o)
     obtain ⟨rfl,rfl,rfl⟩:=o;clear Y HD;go_wp2;go_ret;exact ⟨Av p.out,C.out.b⟩
   have p:=Q0 (fun h=>o (Y.out.2 h));have hq':¬ (i.toList=n.toList/\g.toList=R.toList/\l.toList=U.toList):=fun ⟨h1,h2,h3⟩=>o ⟨(M.Gf _ _).1 h1,(M.Gf _ _).1 h2,(M.Gf _ _).1 h3⟩;have hq2:(i.toList==n.toList&&(g.toList==R.toList&&l.toList==U.toList))=false:=by simpa using hq'
   clear Y HD o;go_wp2
   all_goals go_ret
   all_goals first | exact ⟨Xb p.out,C.out.b⟩ | exact absurd ⟨by assumption,by assumption,by assumption⟩ hq'
 obtain ⟨lb,lo,ha,_,x0,x1,x2,x3⟩:=Ec VR.out C.out.b hlt;subst ha;have HDk:Hid (BH (P5 fs ms) (ls.getD k M.Ga)->∀ j,j<k+1->BH (P5 fs ms) (ls.getD j M.Ga)):=fun h j hj=>by
  rcases U5 j k with h1 | h1
  · exact HD.out j h1
  obtain rfl:j=k:=O0;exact h
 have WW:Hid (¬ BH (P5 fs ms) (ls.getD k M.Ga)->¬ Zv (P5 fs ms) ⟨n,true,⟨i,g,l⟩,ls,⟨rc,rt⟩,wt⟩):=fun h c=>by
  rcases c with ⟨c,_⟩ | ⟨_,_,_,c⟩
  · cases c
  exact h (c _ (by simp [List.getD,hlt]))
 clear HD;generalize ls.getD k M.Ga=x at*;obtain ⟨yh,Q,yc,yt⟩:=x;dsimp only at x0 x1 x2 x3
 go_upto_region 9 with fail
 obtain ⟨Z,hy1⟩:∃ y:World,y=(wr.alloc (.cells #[.bool yh,.string Q,.int .i64 yc,.string yt] 52)).drew:=⟨_,rfl⟩;have A:Below wr.heap.size wr Z:=by rw [hy1];exact bA.drew
 have HC:Hid (Cl Z wr.heap.size 52 [.bool yh,.string Q,.int .i64 yc,.string yt]):=by show Cl _ _ _ _;rw [hy1];exact U1 wr _ 52
 have HZ1:=Q0 (C.out.below A);have p:Hid (∀ u,Below Z.heap.size Z u->u.cell? ⟨w.heap.size,0,none⟩=some (.slice a fs.length cap)/\u.cell? ⟨wr.heap.size,0,none⟩=some (.bool yh)/\u.cell? ⟨wr.heap.size,1,none⟩=some (.string Q)/\u.cell? ⟨wr.heap.size,2,none⟩=some (.int .i64 yc)):=fun u hb=>by
  have h1:=(HZ1.out.below hb).h0.cell 0;have h2:=HC.out.below hb HC.out.lt;exact ⟨h1,h2.cell 0,h2.cell 1,h2.cell 2⟩
 refine F7 (S:=fun u=>u.cell? ⟨w.heap.size,0,none⟩=some (.slice a fs.length cap)/\u.cell? ⟨wr.heap.size,0,none⟩=some (.bool yh)/\u.cell? ⟨wr.heap.size,1,none⟩=some (.string Q)/\u.cell? ⟨wr.heap.size,2,none⟩=some (.int .i64 yc)) U2 ?_ fun f=>?_
 · rw [<- hy1]
   exact p.out _ (F4 _ _)
 rw [<- hy1] at f ⊢;clear hy1 x0 x1 x2 x3;refine tq 0 f ?_;refine I4 1 f ?_;refine I4 2 f ?_;cases yh
 · have HDn:=Q0 (HDk.out (fun c=>by cases c))
   clear HDk WW;refine uq 3 f ?_;simp only [qq];refine uq 4 f ?_;simp only [qq];refine uq 5 f ?_;simp only [qq];refine uq 6 f ?_;simp only [qq];refine uq 7 f ?_;simp only [qq];refine uq 8 f ?_;simp only [qq];refine uq 9 f ?_;simp only [qq];refine uq 10 f ?_;simp only [qq];refine uq 11 f ?_;simp only [qq];refine uq 12 f ?_;simp only [qq];refine tq 13 f ?_;simp only [qq];refine a_ ?_;clear f;go_wp2;go_roundw
   case rel=>exact ⟨k+1,by go_num,O0,bT HB0.out A,HDn⟩
   case measure=>simp [intOf];omega
 refine tq 3 f ?_;simp only [qq];refine tq 4 f ?_;simp only [qq];refine tq 5 f ?_;simp only [qq];refine tq 6 f ?_;simp only [qq];refine tq 8 f ?_;simp only [qq];refine tq 9 f ?_;simp only [qq];refine tq 10 f ?_;simp only [qq];refine tq 11 f ?_;simp only [qq];refine rq 7 fun K hK=>?_;go_simp;refine (G.EP a pa cap pc fs ms Q Z X.out.1 (G.T.U0 HAT.out HZ1.out.b) (G.T.di X.out) O0 (G.X_ HAM.out HZ1.out.b) (G.Lf HP.out)).mono ?_;rintro e y2 ⟨⟨r,rfl,hr⟩,hb2⟩;have ZY:Hid (r=true↔((P5 fs ms).sn Q).code=0):=by
  show r=true↔(Rq (Jg fs ms Q)).code=0;rw [Jp hr];cases r <;> simp [Rq]
 have HB2:=Q0 (HB0.out.trans ((bT A hb2).mono HB0.out.size));have HZ2:=Q0 (HZ1.out.below hb2);clear hr;go_simp;clear f;refine Z6 hK (p.out _ hb2) fun f=>?_;clear hK K;have HQ:=Q0 (fB (yt:=yt) ZY.out (yc:=yc));generalize (yc==0)=z at*;by_cases UR:z=r
 · have HDn:=Q0 (HDk.out (HQ.out.1 UR))
   subst UR;clear HDk WW HQ ZY;refine tq (v:=.bool false) 12 f ?_ (hv:=by intro u hu;cases z <;> simp [go_sem]);simp only [qq];refine tq 13 f ?_;simp only [qq];refine a_ ?_;clear f;go_wp2;go_roundw
   case rel=>exact ⟨k+1,by go_num,O0,HB2,HDn⟩
   case measure=>simp [intOf];omega
 have HN:=Q0 (WW.out (fun h=>UR (HQ.out.2 h)));clear HDk WW HQ ZY;refine tq (v:=.bool true) 12 f ?_ (hv:=by intro u hu;cases z <;> cases r <;> first | exact absurd rfl UR | simp [go_sem]);simp only [qq];refine tq 13 f ?_;simp only [qq];refine a_ ?_;clear f;go_wp2;go_ret;exact ⟨Xb HN.out,HZ2.out.b⟩
end Go.Proofs.YtdjaajjndfbpmaaGreatDoor
namespace Go.Proofs.YtdjaajjndfbpmaaGreatDoor
open Proofs.Tryz
open Go.RowKit
open G (H6 jf Oa Ia)
open G.T (F2 P6 X3 F3)
def LG (fs:List F2) (d:Dd):Prop:=J2 d.nm.data.toList=true/\∃ ms,H6 fs ms/\Zv (P5 fs ms) d
def GA (fs:List F2) (xs:List De):Prop:=X3 fs/\∀ j,j<xs.length->LG fs (xs.getD j Pg).d
theorem c9 (a:Option Addr) (cap:Nat) (fs:List F2) (da:Option Addr) (dc:Nat) (xs:List De) (w:World) (hl:fs.length<=1048576) (hs:∀ i,(fs.getD i P6).le 1048576) (hat:F3 w a fs) (hxl:xs.length<=481) (hx:∀ x∈xs,x.d.ls.length<=15/\x.d.nm.size<=1048576) (hda:Jn w da xs) (hst:Std w):
 Calls prog 9 #[.agg #[.slice a fs.length cap],.slice da xs.length dc] w fun e w'=>Xo (GA fs xs) e/\Below w.heap.size w w':=by
 have V:=Q0 hat;have HF:=Q0 hs;have HST:=Q0 hst;have HDA:=Q0 hda;have HX:=Q0 hx;have O:∀ o1,Below w.heap.size w (w.alloc o1):=fun o1=>bA;clear hat hs hst hda hx;go_enter func9,ntmps9
 go_wp2_with fail
 refine (G.T.c18 a cap fs _ hl HF.out (G.T.U0 V.out (O _))).mono ?_;rintro e w1 ⟨⟨b,rfl,hb⟩,C⟩;have S:=Q0 hb;have D:=(O _).trans (C.mono X0);have t1:w1.cell? ⟨w.heap.size,0,none⟩=some (.slice a fs.length cap):=(C.cell (p:=⟨w.heap.size,0,none⟩) X0).trans (by simp [go_sem]);have I:w.heap.size<w1.heap.size:=by have:=C.size;simp at this;omega
 clear hb C O;cases b
 · have n:Hid (¬ GA fs xs):=fun c=>by have:=S.out.2 c.1;cases this
   go_wp2;go_ret;exact ⟨Xb n.out,D⟩
 have HT:=Q0 (S.out.1 rfl);clear S
 go_wp2_with fail
 refine (G.c28 a cap fs w1 hl HF.out (G.T.U0 V.out D) (HST.out.vz.below D)).mono ?_;rintro e w2 ⟨⟨ms,v,rfl,hrow,hp⟩,B⟩;have Q:=Q0 hp;have hB2:=bT D B;have t2:=(B.cell (p:=⟨w.heap.size,0,none⟩) I).trans t1;have hz2:=D7 I B.size;obtain ⟨pa,pc,rfl,hpm⟩:=G.J7 hrow;have HPM:=Q0 hpm;clear hp B hrow hpm t1 I
 go_wp2_with fail
 go_loopw [15] (fun r wr=>∃ k:Nat,r=.int .i64 k/\k<=xs.length/\Hid (Below w2.heap.size w2 wr)/\Hid (∀ j,j<k->LG fs (xs.getD j Pg).d)) (fun r _=>xs.length - (intOf r).toNat)
 case atStart=>exact ⟨0,rfl,I5 _,F4 _ _,fun j h=>absurd h (F5 _)⟩
 obtain ⟨k,rfl,hk,U,H⟩:=hrel;have N:=bT hB2 U.out;by_cases hlt:k<xs.length;rotate_left
 · have HV:Hid (GA fs xs):=⟨HT.out,fun j hj=>H.out j O0⟩
   clear H;go_wp2;go_ret;exact ⟨Av HV.out,N⟩
 obtain ⟨g,la,t,ha,hg,hm,XW,J,f⟩:=(HDA.out.below N).at hlt;subst ha;rw [XW] at f;have F:Hid (LG fs (xs.getD k Pg).d->∀ j,j<k+1->LG fs (xs.getD j Pg).d):=fun h j hj=>by
  rcases U5 j k with h1 | h1
  · exact H.out j h1
  obtain rfl:j=k:=O0;exact h
 have m:Hid (¬ LG fs (xs.getD k Pg).d->¬ GA fs xs):=fun h c=>h (c.2 k hlt);obtain ⟨JV,hnz⟩:=HX.out _ hm;clear H hm XW;generalize (xs.getD k Pg).d=d at*;obtain ⟨nm,md,⟨q,o,s⟩,ls,⟨rc,rt⟩,wt⟩:=d;dsimp only at JV hnz J;have g0:=f 0 _ rfl;have g1:=f 1 _ rfl;have g2:=f 2 _ rfl;have g3:=f 3 _ rfl;have g4:=f 4 _ rfl;have g5:=f 5 _ rfl;have g6:=f 6 _ rfl;have g7:=f 7 _ rfl;rw [Nh] at g0;dsimp only at g0 g1 g2 g3 g4 g5 g6 g7;obtain ⟨y,u⟩:∃ y:World,y=wr.alloc (.cells #[.string nm,.bool md,.string q,.string o,.string s,.slice la ls.length t,.int .i64 rc,.string rt] 50):=⟨_,rfl⟩;have A:Below wr.heap.size wr y:=by rw [u];exact bA
 have l:Hid (Cl y wr.heap.size 50 [.string nm,.bool md,.string q,.string o,.string s,.slice la ls.length t,.int .i64 rc,.string rt]):=by show Cl _ _ _ _;rw [u];exact U1 wr _ 50
 have VR:=Q0 (M.Y_ J A);clear f J;have L:=bT N A;have R:=Q0 (bT U.out A)
 go_wp2_with fail
 rw [<- u];refine (c19 nm y O0).mono ?_;rintro e w3 ⟨z,hw3⟩;obtain rfl:=hw3;have t3:=(R.out.cell (p:=⟨w.heap.size,0,none⟩) hz2).trans t2;clear u A g0 g1 g2 g3 g4 g5 g6 g7 U;cases hn:J2 nm.data.toList
 · have P:e=.returned (.bool false):=by rw [z];exact V3 (fun b=>Ending.returned (.bool b)) hn
   subst P;have n:=Q0 (m.out (fun c=>by have:=c.1.symm.trans hn;cases this));clear z F m;go_wp2;go_ret;exact ⟨Xb n.out,L⟩
 have P:e=.returned (.bool true):=by rw [z];exact V3 (fun b=>Ending.returned (.bool b)) hn
 subst P;clear z;have y0:=l.out.cell 0;have y1:=l.out.cell 1;have y2:=l.out.cell 2;have y3:=l.out.cell 3;have Z:=l.out.cell 4;have Y:=l.out.cell 5;have X:=l.out.cell 6;have W:=l.out.cell 7;dsimp only [List.getElem?_cons_zero,List.getElem?_cons_succ] at y0 y1 y2 y3 Z Y X W
 go_wp2_with fail
 refine (kQ a pa cap pc fs ms ⟨⟨nm,md,⟨q,o,s⟩,ls,⟨rc,rt⟩,wt⟩,.slice la ls.length t⟩ la t w3 rfl JV VR.out HT.out Q.out (G.T.U0 V.out L) (G.X_ HPM.out R.out)).mono ?_;rintro e w4 ⟨⟨r,rfl,hr⟩,K⟩;have E:Hid (r=true↔LG fs ⟨nm,md,⟨q,o,s⟩,ls,⟨rc,rt⟩,wt⟩):=hr.trans ⟨fun h=>⟨hn,ms,Q.out,h⟩,fun ⟨_,ms',h1,h2⟩=>by obtain rfl:=G.o_ Q.out h1;exact h2⟩;have hB4:=bT L K;have NR:=Q0 (bT R.out K);clear hr K y0 y1 y2 y3 Z Y X W;cases r
 · have n:=Q0 (m.out (fun c=>by have:=E.out.2 c;cases this))
   clear E F m;go_wp2;go_ret;exact ⟨Xb n.out,hB4⟩
 have HDn:=Q0 (F.out (E.out.1 rfl));clear E F m;go_wp2;go_roundw
 case rel=>exact ⟨k+1,by go_num,O0,NR,HDn⟩
 case measure=>simp [intOf];omega
end Go.Proofs.YtdjaajjndfbpmaaGreatDoor
