import Derived.Test.YtdjaajjndfbpmaaGreatDoorWL
set_option linter.unusedVariables false
set_option maxHeartbeats 8000000
set_option maxRecDepth 100000
namespace Go.Proofs.YtdjaajjndfbpmaaGreatDoor
open Proofs.Tryz
open Go.RowKit
open G.T (F2 P6 F3 Y8)
def lN (A q P:Nat) (w:World) (e:Ending) (w':World):Prop:=(∃ v',e=.returned (.agg #[v'])/\Yh (A+1) w' v'/\∀ k,v'.ownBlock=some k->w.heap.size<=k)/\D6 w' q (P+5)/\But q w w'
theorem Cx {A q P X n:Nat} {w u:World} {v:Value} {xs:List Value} (h:Sp q (P+5) w X n v xs u) (f:n<=A+1) (e:Array Value) (g:e[4]?=some (.pointer (some ⟨w.heap.size+1,0,none⟩))):bodyPost prog f41 (lN A q P w) .ret ⟨e,[]⟩ (u.setCell ⟨w.heap.size+1,0,none⟩ v):=by
 have i:=O7 u ⟨w.heap.size+1,0,none⟩ v (h.h1.cell 0);obtain ⟨a,b,c,d⟩:=h.fin f;exact K4 (v:=.agg #[v]) (by simp [results,results41,go_sem,i,g]) rfl ⟨⟨v,rfl,c,d⟩,a,b⟩
theorem dE (w:World) (a b:Obj):Below w.heap.size w ((w.alloc a).alloc b):=bA.alloc X0 _
theorem new_ne {q P X n:Nat} {w u:World} {v v':Value} {xs:List Value} (h:Sp q P w X n v xs u) (a:v'.ownBlock=v.ownBlock\/v'.ownBlock=some u.heap.size):∀ k,v'.ownBlock=some k->k≠X:=fun k e=>by
 rcases a with a | a
 · exact (h.ne (a.symm.trans e)).1
 rw [a] at e;have:=j6 e;have:=h.h2.lt;omega
def iE (X:Nat) (w:World):Nat:=match w.cell? ⟨X,0,none⟩ with | some (.slice _ n _)=>n | _=>0
theorem XM (u:World) (y z:Int):(convert 22 9 (.slice (some ⟨u.heap.size,0,none⟩) 2 2)).run prog (u.alloc (.cells #[.int .u8 y,.int .u8 z] 5))=.ok (.string (strOfNums [y,z])) (u.alloc (.cells #[.int .u8 y,.int .u8 z] 5)):=
 BA _ 22 5 underlying22 underlying5 _ 0 2 2 [y,z] rfl (fun i hi=>by
  obtain rfl | rfl:i=0\/i=1:=O0
  · simp
  simp) 9 underlying9
theorem OP (A q P:Nat) (v:Value) (w:World) (hA:40<=A/\A<=60) (hp:P<=90000) (hr:D6 w q P) (h:Yh A w v):
 Calls prog 41 #[.pointer (some ⟨q,0,none⟩),.agg #[v]] w fun e w'=>lN A q P w e w':=by
 have HR:=M4 hr;have HT:=M4 h;obtain ⟨a0,c0,fs0,hv,_⟩:=h;clear hr;subst hv;go_enter func41,ntmps41
 go_wp2_with fail
 obtain ⟨W,hW⟩:∃ W:World,W=(w.alloc (.cells #[.slice a0 fs0.length c0] 25)).alloc (.cells #[.slice none 0 0] 25):=⟨_,rfl⟩;rw [<- hW];have b0:Below w.heap.size w W:=by rw [hW];exact bA.alloc X0 _
 have C1:Hid (Cl W (w.heap.size+1) 25 [.slice none 0 0]):=by show Cl _ _ _ _;rw [hW];exact Uf (xs:=[_]) X0
 have hz:W.heap.size=w.heap.size+2:=by rw [hW];simp
 have Q:=M4 hz;clear hW hz;refine (NQ _ W hA.2 (HT.out.below b0)).mono ?_;rintro e w1 ⟨⟨v,n,xs,rfl,hr,hs,hn⟩,L⟩;obtain ⟨va,J,rfl⟩:=Nc hr;obtain ⟨U,hU⟩:∃ U:World,U=w1.alloc (.cells #[.slice va n J] 25):=⟨_,rfl⟩;have bU:Below w1.heap.size w1 U:=by rw [hU];exact bA
 have hqw:=HR.out.lt;have c:Hid (Sp q P w w1.heap.size n (.slice va n J) xs U):=by
  have hb:=b0.trans ((bT L bU).mono b0.size);refine ⟨HR.out.later hb,But.of_below hb,hqw,(C1.out.below L C1.out.lt).below bU (C1.out.below L C1.out.lt).lt,by rw [hU];exact U1 w1 [_] 25,by have:=L.size;have:=Q.out;omega,?_,hs⟩;have:=ownsRow_below hr bU;rw [Q.out] at this;exact this
 have Hn:=M4 hn;have CR:=C1.out.below L C1.out.lt;have D:=CR.cell 0;have N:=CR.opn 0;have zR:=CR.lt;dsimp only [List.getElem?_cons_zero] at D;have TE:Hid (But q w w1/\D6 w1 q P):=⟨But.of_below (bT b0 L),HR.out.later (bT b0 L)⟩;clear hr hs L b0 HR HT bU C1 CR;rcases Xg n with h0 | h0
 · subst h0
   have zR2:w.heap.size+1<w1.heap.size+1:=O0;go_wp2;have er:=O7 w1 ⟨w.heap.size+1,0,none⟩ (.slice (some ⟨w1.heap.size+1,0,none⟩) 1 1) D;refine K4 (v:=.agg #[.slice (some ⟨w1.heap.size+1,0,none⟩) 1 1]) (by simp [results,results41,go_sem,er,zR,zR2]) rfl ⟨⟨_,rfl,⟨_,1,[⟨⟨#[]⟩,⟨#[]⟩⟩],rfl,.inr ⟨_,0,rfl,X0,fun i hi=>?_⟩,X0,by intro x hx;simp at hx;subst hx;exact ⟨K3,K3⟩⟩,fun k e=>by have:=j6 e;simp at this;omega⟩,?_,?_⟩
   · obtain rfl:i=0:=by simpa using hi
     exact ⟨(Uf (xs:=[.string ⟨#[]⟩,.string ⟨#[]⟩]) (t:=39) X0).cell 0,(Uf (xs:=[.string ⟨#[]⟩,.string ⟨#[]⟩]) (t:=39) X0).cell 1⟩
   · exact ((J8 TE.out.2 O0 _ _).later (dE _ _ _)).mono O0
   exact (U7 TE.out.1 O0 _ _).later (dE _ _ _)
 have hne:((n:Int)==0)=false:=J4
 go_wp2_with fail
 rw [<- hU];clear hU D N zR TE;generalize w1.heap.size=X at*;refine (X5 U q P n O0 O0 O0 c.out.rd).mono ?_;rintro e u1 ⟨⟨k,rfl,k0,k1⟩,p,ho⟩;have d:=M4 (c.out.call p ho.but);clear c p ho;obtain ⟨k,rfl⟩:=A8 k0
 go_wp2_with fail
 refine (X5 u1 q (P+1) 5 O0 O0 O0 d.out.rd).mono ?_;rintro e u ⟨⟨r,rfl,r0,r1⟩,p,ho⟩;have c:=M4 (d.out.call p ho.but);clear d p ho;have s:=c.out.h2.cell 0;have fX:=c.out.h2.opn 0;have D:=c.out.h1.cell 0;have N:=c.out.h1.opn 0;have zX:=c.out.h2.lt;have gX:=c.out.hX;dsimp only [List.getElem?_cons_zero] at s D;obtain ⟨g,rfl⟩:∃ g,va=some ⟨g,0,none⟩:=by
  rcases c.out.ho.2 with ⟨_,h⟩ | ⟨g,_,_,h,_⟩
  · omega
  injection h with h _ _;exact ⟨g,h⟩
 have hk1:=k1;have mark:=trivial;obtain rfl | rfl | rfl | rfl | rfl:r=0\/r=1\/r=2\/r=3\/r=4:=O0
 · go_wp2_with fail
   refine F7 (S:=fun u=>u.cell? ⟨X,0,none⟩=some (.slice (some ⟨g,0,none⟩) n J)) U2 ?_ fun a=>?_
   · ((try dsimp only);go_keep)
   obtain ⟨I,f⟩:∃ y:World,y=u.drew:=⟨_,rfl⟩;rw [<- f] at a ⊢;have c:=M4 (c.out.later (u':=I) (by rw [f];exact (F4 _ _).drew));clear f s fX D N;refine tq 0 a ?_;refine tq 1 a ?_;refine tq 2 a ?_;refine tq 3 a ?_;refine I4 8 a ?_;refine rq 4 fun K b=>?_;go_simp;refine (X5 I q (P+2) 2 O0 O0 O0 c.out.rd).mono ?_;rintro e F ⟨⟨r1,rfl,VZ,r11⟩,p,ho⟩;have d:=M4 (c.out.call p ho.but);clear c p ho a;obtain ⟨m,rfl⟩:=A8 VZ;go_simp;refine b.out _ _ (d.out.h2.cell 0) fun a=>?_;clear b K;have hw:IntKind.i64.wrap (20+(m:Int))=((20+m:Nat):Int):=by simp [IntKind.wrap,IntKind.signed,IntKind.bits];omega
   try simp only [qq]
   refine I4 5 a ?_;refine rq 6 fun K b=>?_;go_simp;refine (c40 ⟨#[110]⟩ (20+m) F K3 O0).mono ?_;rintro e w6 ⟨⟨x,rfl,hx⟩,yT⟩;obtain rfl:=yT.symm;clear hw a;go_simp;refine Z6 b (d.out.h2.cell 0) fun a=>?_;clear b K;refine Ma (rs:=[7,9]) U2 X0 (x8 (o:=⟨some 52,_,79,_,_,none⟩) rfl (fun K b=>?_) (x8 (o:=⟨some 54,.call ⟨.value (.func 34),#[.tmp 53,.const (.int .i64 4)],#[67,3]⟩,3,_,_,none⟩) rfl (fun K b=>?_) Ra));go_simp;obtain ⟨E,f⟩:∃ y:World,y=F.alloc (.cells #[.string ⟨#[]⟩,.string ⟨#[120,32,121]⟩,.string ⟨#[122,122]⟩,.string x] 9):=⟨_,rfl⟩;rw [<- f];have b2:Below F.heap.size F E:=by rw [f];exact bA
   have C2:Hid (Cl E F.heap.size 9 [.string ⟨#[]⟩,.string ⟨#[120,32,121]⟩,.string ⟨#[122,122]⟩,.string x]):=by show Cl _ _ _ _;rw [f];exact U1 F _ 9
   have C:=M4 (d.out.later b2);have hqy:=d.out.rd.lt;clear f a d;refine Z6 b (C.out.h2.cell 0) fun a=>?_;clear b K;refine rq 9 fun K b=>?_;go_simp;refine (X5 E q (P+3) 4 O0 O0 O0 C.out.rd).mono ?_;rintro e y3 ⟨⟨r2,rfl,GV,r21⟩,p,ho⟩;have H:=M4 (C.out.call p ho.but);have C3:Hid (Cl y3 F.heap.size 9 [.string ⟨#[]⟩,.string ⟨#[120,32,121]⟩,.string ⟨#[122,122]⟩,.string x]):=(ho.block _ O0).trans C2.out;clear ho a p C C2;go_simp;refine Z6 b (H.out.h2.cell 0) fun a=>?_;clear b K;generalize F.heap.size=B at C3 ⊢;revert mark;rotate_left;go_simp;refine (X5 F q (P+3) 4 O0 O0 O0 d.out.rd).mono ?_;rintro e E ⟨⟨r2,rfl,GV,r21⟩,p,ho⟩;have C:=M4 (d.out.call p ho.but);clear ho a p d;go_simp;refine Z6 b (C.out.h2.cell 0) fun a=>?_;clear b K;refine rq 7 fun K b=>?_;go_simp;obtain ⟨y3,f⟩:∃ y:World,y=E.alloc (.cells #[.string ⟨#[]⟩,.string ⟨#[120,32,121]⟩,.string ⟨#[122,122]⟩,.string x] 9):=⟨_,rfl⟩;rw [<- f];have b3:Below E.heap.size E y3:=by rw [f];exact bA
   have C3:Hid (Cl y3 E.heap.size 9 [.string ⟨#[]⟩,.string ⟨#[120,32,121]⟩,.string ⟨#[122,122]⟩,.string x]):=by show Cl _ _ _ _;rw [f];exact U1 E _ 9
   have H:=M4 (C.out.later b3);clear f a C;refine Z6 b (H.out.h2.cell 0) fun a=>?_;clear b K;generalize E.heap.size=B at C3 ⊢;revert mark
   all_goals
    intro _;obtain ⟨z,hz,hzs⟩:=fe [.string ⟨#[]⟩,.string ⟨#[120,32,121]⟩,.string ⟨#[122,122]⟩,.string x] 4000 (by simp [Hu];exact ⟨K3,K3,K3,hx⟩) GV (by simpa using r21);have cz:=(C3.out.cell r2.toNat).trans hz;have dg:=H.out.ho.cellAt (k*2) O0;have fg:=H.out.ho.frozenAt (k*2);obtain ⟨s0,hs0,_⟩:=H.out.sr.get (j:=k*2) O0;rw [hs0] at dg;refine I4 10 a ?_;refine rq 11 fun K b=>?_;go_simp;refine Z6 b (H.out.h2.cell 0) fun a=>?_;clear b K;refine tq 12 a ?_;refine I4 13 a ?_;refine rq 14 fun K b=>?_;go_simp;have l:=M4 ((H.out.mg (k*2) hzs).call (P':=P+5) ((H.out.mg (k*2) hzs).rd.mono O0) (But.refl _ _));clear a H C3 cz dg fg;refine Z6 b (l.out.h2.cell 0) fun a=>?_;clear b K;refine a_ ?_;clear a;generalize (World.setCell _ _ _)=y4 at*;have s:=l.out.h2.cell 0;have D:=l.out.h1.cell 0;have N:=l.out.h1.opn 0;dsimp only [List.getElem?_cons_zero] at s D;go_wp2;exact Cx l.out O0 _ rfl
 · go_wp2_with fail
   refine F7 (S:=fun u=>u.cell? ⟨X,0,none⟩=some (.slice (some ⟨g,0,none⟩) n J)) U2 ?_ fun a=>?_
   · ((try dsimp only);go_keep)
   obtain ⟨I,f⟩:∃ y:World,y=u.drew:=⟨_,rfl⟩;rw [<- f] at a ⊢;have c:=M4 (c.out.later (u':=I) (by rw [f];exact (F4 _ _).drew));clear f s fX D N;refine tq 0 a ?_;refine tq 1 a ?_;refine tq 2 a ?_;refine I4 3 a ?_;refine rq 4 fun K b=>?_;go_simp;refine (X5 I q (P+2) 2 O0 O0 O0 c.out.rd).mono ?_;rintro e F ⟨⟨r1,rfl,VZ,r11⟩,p,ho⟩;have d:=M4 (c.out.call p ho.but);clear c p ho a;obtain ⟨m,rfl⟩:=A8 VZ;go_simp;refine b.out _ _ (d.out.h2.cell 0) fun a=>?_;clear b K;have hw:IntKind.i64.wrap (300+(m:Int))=((300+m:Nat):Int):=by simp [IntKind.wrap,IntKind.signed,IntKind.bits];omega
   try simp only [qq]
   refine I4 5 a ?_;refine rq 6 fun K b=>?_;go_simp;refine (c40 ⟨#[116]⟩ (300+m) F K3 O0).mono ?_;rintro e w6 ⟨⟨x,rfl,hx⟩,yT⟩;obtain rfl:=yT.symm;clear hw a;go_simp;refine Z6 b (d.out.h2.cell 0) fun a=>?_;clear b K;have dg:=d.out.ho.cellAt (k*2+1) O0;have fg:=d.out.ho.frozenAt (k*2+1);obtain ⟨s0,hs0,_⟩:=d.out.sr.get (j:=k*2+1) O0;rw [hs0] at dg;refine tq 7 a ?_;refine I4 8 a ?_;refine rq 9 fun K b=>?_;go_simp;have l:=M4 ((d.out.mg (k*2+1) hx).call (P':=P+5) ((d.out.mg (k*2+1) hx).rd.mono O0) (But.refl _ _));clear a d dg fg;refine Z6 b (l.out.h2.cell 0) fun a=>?_;clear b K;refine a_ ?_;clear a;generalize (World.setCell _ _ _)=y4 at*;have s:=l.out.h2.cell 0;have D:=l.out.h1.cell 0;have N:=l.out.h1.opn 0;dsimp only [List.getElem?_cons_zero] at s D;go_wp2;exact Cx l.out O0 _ rfl
 · obtain ⟨s0,hs0,l0⟩:=c.out.sr.get (j:=k*2) O0
   obtain ⟨s1,hs1,l1⟩:=c.out.sr.get (j:=k*2+1) O0;have g0:=(c.out.ho.cellAt (k*2) O0).trans hs0;have g1:=(c.out.ho.cellAt (k*2+1) O0).trans hs1
   go_wp2_with fail
   refine R8 (S:=fun u=>u.cell? ⟨X,0,none⟩=some (.slice (some ⟨g,0,none⟩) n J)) 10 U2 ?_ fun a=>?_
   · ((try dsimp only);go_keep)
   refine lq 0 a ?_;refine lq 1 a ?_;refine lq 2 a ?_;refine lq 3 a ?_;refine lq 4 a ?_;refine lq 5 a ?_
   try simp only [qq]
   refine lr (i:=6) (o:=⟨some 78,.load 39 (.tmp 77),39,_,_,none⟩) rfl K3 U2 fun K b=>?_;go_simp;refine CP b fun a=>?_;clear b K;refine lr (i:=7) (o:=⟨some 79,.buildSlice 23 1 #[(0,.tmp 78)],23,_,_,none⟩) rfl K3 U2 fun K b=>?_;go_simp;obtain ⟨y,f⟩:∃ y:World,y=(u.alloc (.cells #[.string s0,.string s1] 39)).drew:=⟨_,rfl⟩;rw [<- f];have hby:Below u.heap.size u y:=by rw [f];exact bA.drew
   have CS:Hid (Cl y u.heap.size 39 [.string s0,.string s1]):=by show Cl _ _ _ _;rw [f];exact U1 u _ 39
   have R:=M4 (c.out.later hby);clear f a;refine Z6 b ?_ fun a=>?_
   · exact R.out.h2.cell 0
   clear b K;refine lr (i:=8) (o:=⟨some 80,.call ⟨.builtin .append,#[.tmp 73,.tmp 79],#[23,23]⟩,23,_,_,none⟩) rfl K3 U2 fun K b=>?_;refine z_ rfl _ _ 23 rfl (w.heap.size+2) 39 2 underlying23 Kl K3 _ n _ rfl R.out.ho _ 1 [.string s0,.string s1] rfl (.inr ⟨⟨u.heap.size,0,none⟩,1,rfl,rfl,za CS.out⟩) (by simp [Value.oneCell']) O0 (by have:=R.out.h2.lt;omega) ?_;intro v' E O g2 hn2;obtain ⟨MX,OX,rfl⟩:=Nc O;obtain ⟨_,_,_,c2⟩:=R.out.gr g2 O (R.out.sr.app l0 l1);have Q:=R.out.put g2 O (R.out.sr.app l0 l1) (new_ne R.out hn2);have l:=M4 (Q.call (P':=P+5) (Q.rd.mono O0) (But.refl _ _));clear O a;refine Z6 b ?_ fun a=>?_
   · exact c2.cell 0
   clear b K;refine lq 9 a ?_
   try simp only [qq]
   refine lz (o:=⟨none,.store 23 (.tmp 81) (.tmp 80),0,_,_,none⟩) rfl U2 fun K b=>?_;have z2:=c2.cell 0;have zf:=c2.opn 0;dsimp only [List.getElem?_cons_zero] at z2;go_simp;clear a;refine b.out _ _ ?_;clear b K
   try simp only [qq]
   refine l_ U2 ?_ _;clear z2 zf c2;generalize (World.setCell _ _ _)=y4 at*;have s:=l.out.h2.cell 0;have D:=l.out.h1.cell 0;have N:=l.out.h1.opn 0;dsimp only [List.getElem?_cons_zero] at s D;go_wp2;exact Cx l.out O0 _ rfl
 · go_wp2_with fail
   refine (X5 u q (P+2) 2 O0 O0 O0 c.out.rd).mono ?_;rintro e F ⟨⟨r1,rfl,VZ,r11⟩,p,ho⟩;have d:=M4 (c.out.call p ho.but);clear c p ho s fX D N;obtain ⟨m0,rfl⟩:=A8 VZ
   go_wp2_with fail
   go_loopw [8] (fun i wr=>∃ (j m:Nat) (va:Option Addr) (J:Nat) (ys:List Value),i=.int .i64 j/\j<=m/\m<=A+1/\Hid (Sp q (P+3) w X m (.slice va m J) ys wr)) (fun _ wr=>100 - iE X wr)
   case atStart=>exact ⟨0,n,_,J,xs,rfl,O0,O0,d⟩
   obtain ⟨j,m,va,J,ys,rfl,hj,hm,c⟩:=hrel;have s:=c.out.h2.cell 0;have fX:=c.out.h2.opn 0;have D:=c.out.h1.cell 0;have N:=c.out.h1.opn 0;have zX:=c.out.h2.lt;dsimp only [List.getElem?_cons_zero] at s D;by_cases hlt:m<40+m0;rotate_left
   · go_wp2
     exact Cx (c.out.call (P':=P+5) (c.out.rd.mono O0) (But.refl _ _)) O0 _ rfl
   obtain ⟨sn,hsn,hcv⟩:∃ sn:ByteArray,sn.size<=2/\(convert 22 9 (.slice (some ⟨wr.heap.size,0,none⟩) 2 2)).run prog (wr.alloc (.cells #[.int .u8 (97+(j:Int) / 26),.int .u8 (97+(j:Int) % 26)] 5))=.ok (.string sn) (wr.alloc (.cells #[.int .u8 (97+(j:Int) / 26),.int .u8 (97+(j:Int) % 26)] 5)):=⟨strOfNums [97+(j:Int) / 26,97+(j:Int) % 26],Q6 2,XM wr _ _⟩;obtain ⟨V,hV⟩:∃ V:World,V=(wr.alloc (.cells #[.int .u8 (97+(j:Int) / 26),.int .u8 (97+(j:Int) % 26)] 5)).alloc (.cells #[.string (⟨#[122,122]⟩++sn),.string ⟨#[]⟩] 39):=⟨_,rfl⟩;have bV:Below wr.heap.size wr V:=by rw [hV];exact dE _ _ _
   have CS:Hid (Cl V (wr.heap.size+1) 39 [.string (⟨#[122,122]⟩++sn),.string ⟨#[]⟩]):=by show Cl _ _ _ _;rw [hV];exact Uf (xs:=[_,_]) X0
   have Y:=M4 (c.out.later bV);have hsz:(⟨#[122,122]⟩++sn:ByteArray).size<=4000:=by rw [K9];have e:ByteArray.size ⟨#[122,122]⟩=2:=rfl;omega
   go_wp2_with (at_builtin;rw [<- hV];refine Ve rfl _ _ 23 rfl (w.heap.size+2) 39 2 underlying23 Kl K3 _ m _ rfl Y.out.ho _ 1 [.string (⟨#[122,122]⟩++sn),.string ⟨#[]⟩] rfl (.inr ⟨⟨wr.heap.size+1,0,none⟩,1,rfl,rfl,za CS.out⟩) (by simp [Value.oneCell']) O0 (by have:=Y.out.h2.lt;have:=Y.out.hX;omega) ?_;intro v' E O g2 hn2;obtain ⟨MX,OX,rfl⟩:=Nc O;obtain ⟨_,_,_,c2⟩:=Y.out.gr g2 O (Y.out.sr.app hsz K3);have Q:=M4 (Y.out.put g2 O (Y.out.sr.app hsz K3) (new_ne Y.out hn2));have z2:=c2.cell 0;have zf:=c2.opn 0;dsimp only [List.getElem?_cons_zero] at z2;clear O g2 hn2)
   go_roundw
   case rel=>exact ⟨j+1,m+1,_,_,_,by go_num,O0,O0,Q⟩
   case measure=>
    have e1:iE X wr=m:=by unfold iE;rw [s]
    have e2:=Q.out.h2.cell 0;dsimp only [List.getElem?_cons_zero] at e2;have e3:iE X (E.setCell ⟨X,0,none⟩ (.slice MX (m+1) OX))=m+1:=by unfold iE;rw [e2]
    rw [e1,e3];omega
 obtain ⟨a0,ha0,la0⟩:=c.out.sr.get (j:=0) O0;obtain ⟨a1,ha1,la1⟩:=c.out.sr.get (j:=1) O0;obtain ⟨b0,hb0,lb0⟩:=c.out.sr.get (j:=k*2) O0;obtain ⟨b1,L,lb1⟩:=c.out.sr.get (j:=k*2+1) O0;have g0:=(c.out.ho.cellAt 0 O0).trans ha0;have g1:=(c.out.ho.cellAt 1 O0).trans ha1;have hgu:=(c.out.ho.lt g rfl).2
 go_wp2_with fail
 obtain ⟨I,f⟩:∃ y:World,y=u.alloc (.cells #[.string a0,.string a1] 39):=⟨_,rfl⟩;rw [<- f];have by0:Below u.heap.size u I:=by rw [f];exact bA
 have Z:Hid (Cl I u.heap.size 39 [.string a0,.string a1]):=by show Cl _ _ _ _;rw [f];exact U1 u _ 39
 have nU:=M4 (c.out.later by0);clear f s fX D N g0 g1;have s:=nU.out.h2.cell 0;dsimp only [List.getElem?_cons_zero] at s;refine F7 (S:=fun u=>u.cell? ⟨X,0,none⟩=some (.slice (some ⟨g,0,none⟩) n J)) U2 ?_ fun a=>?_
 · ((try dsimp only);go_keep)
 obtain ⟨F,f⟩:∃ y:World,y=I.drew:=⟨_,rfl⟩;rw [<- f] at a ⊢;have bd:Below I.heap.size I F:=by rw [f];exact (F4 _ _).drew
 have d:=M4 (nU.out.later bd);have Z:=M4 (Z.out.below bd Z.out.lt);clear f nU s;have g0:=(d.out.ho.cellAt 0 O0).trans ha0;have g1:=(d.out.ho.cellAt 1 O0).trans ha1;have f0:=d.out.ho.frozenAt 0;have f1:=d.out.ho.frozenAt 1;have k0:=(d.out.ho.cellAt (k*2) O0).trans hb0;have k1':=(d.out.ho.cellAt (k*2+1) O0).trans L;refine tq 0 a ?_;refine tq 1 a ?_;refine tq 2 a ?_;refine tq 3 a ?_;refine tq 4 a ?_;refine I4 5 a ?_;refine rq 6 fun K b=>?_;go_simp;refine Z6 b (d.out.h2.cell 0) fun a=>?_;clear b K;have hnp:(0:Int)<(n:Int):=O0;refine I4 7 a ?_;refine rq 8 fun K b=>?_;go_simp;have C:=M4 ((d.out.mg 0 lb0).mg 1 lb1);have hne:u.heap.size≠g:=O0;have Z:=M4 ((Z.out.on (I6 _ g 0 (.string b0)) hne).on (I6 _ g 1 (.string b1)) hne);clear a g0 g1 f0 f1 k0 k1' d;generalize (World.setCell (World.setCell _ _ _) _ _)=E at*;refine Z6 b (C.out.h2.cell 0) fun a=>?_;clear b K;refine a_ ?_;clear a;have s:=C.out.h2.cell 0;have t0:=Z.out.cell 0;have t1:=Z.out.cell 1;dsimp only [List.getElem?_cons_zero,List.getElem?_cons_succ] at s t0 t1;obtain ⟨s0,hs0,_⟩:=C.out.sr.get (j:=k*2) O0;obtain ⟨s1,hs1,_⟩:=C.out.sr.get (j:=k*2+1) O0;have q0:=(C.out.ho.cellAt (k*2) O0).trans hs0;have q1:=(C.out.ho.cellAt (k*2+1) O0).trans hs1;have f0:=C.out.ho.frozenAt (k*2);have f1:=C.out.ho.frozenAt (k*2+1);have H:=(C.out.mg (k*2) la0).mg (k*2+1) la1;have l:=M4 (H.call (P':=P+5) (H.rd.mono O0) (But.refl _ _));have dX9:=l.out.h2.cell 0;have dR9:=l.out.h1.cell 0;have fR9:=l.out.h1.opn 0;dsimp only [List.getElem?_cons_zero] at dX9 dR9;clear H C Z;go_wp2;exact Cx l.out O0 _ rfl
structure DS (q P:Nat) (w:World) (v:Value) (u:World):Prop where
 rd:D6 u q P
 bu:But q w u
 qw:q<w.heap.size
 h1:Cl u w.heap.size 25 [.slice none 0 0]
 h2:Cl u (w.heap.size+1) 25 [v]
 tr:Yh 40 u v
 kn:∀ k,v.ownBlock=some k->w.heap.size<=k
variable {q P P':Nat} {w u u':World} {v v':Value}
theorem DS.call (h:DS q P w v u) (b:D6 u' q P') (a:But q u u'):DS q P' w v u':=by
 have:=h.qw;exact ⟨b,h.bu.trans a,h.qw,(a.block _ h.h1.lt O0).trans h.h1,(a.block _ h.h2.lt O0).trans h.h2,h.tr.but a (fun k e=>by have:=h.kn k e;omega),h.kn⟩
theorem DS.later (h:DS q P w v u) (a:Below u.heap.size u u'):DS q P w v u':=h.call (h.rd.later a) (But.of_below a)
theorem DS.jl (h:DS q P w v u) (a:P<=P'):DS q P' w v u:=h.call (h.rd.mono a) (But.refl _ _)
theorem DS.uM (h:DS q P w v u) (hv:v'=v\/∀ k,v'.ownBlock=some k->u.heap.size<=k):∀ k,v'.ownBlock=some k->w.heap.size<=k:=fun k e=>by
 rcases hv with rfl | hv
 · exact h.kn k e
 exact Z4 h.bu.size (hv k e)
theorem DS.put (h:DS q P w v u) (b:Yh 40 u v') (d:∀ k,v'.ownBlock=some k->w.heap.size<=k):DS q P w v' (u.setCell ⟨w.heap.size+1,0,none⟩ v'):=by
 have:=h.qw;obtain ⟨a,c,fs,rfl,_⟩:=h.tr;exact ⟨J8 h.rd O0 _ _,U7 h.bu O0 _ _,h.qw,h.h1.on (I6 _ _ _ _) O0,h.h2.set 0 _,Yf b h.h2,d⟩
def oI (B q P:Nat) (w:World) (e:Ending) (w':World):Prop:=(∃ v',e=.returned (.agg #[v'])/\Yh B w' v'/\∀ k,v'.ownBlock=some k->w.heap.size<=k)/\D6 w' q P/\But q w w'
theorem pK (h:DS q (P+1500) w v u) (b:Yh 40 u v') (c:∀ k,v'.ownBlock=some k->w.heap.size<=k) (a:Array Value) (h2:a[2]?=some (.pointer (some ⟨w.heap.size,0,none⟩))):bodyPost prog f63 (oI 40 q (P+1500) w) .ret ⟨a,[]⟩ (u.setCell ⟨w.heap.size,0,none⟩ v'):=by
 have d:=O7 u ⟨w.heap.size,0,none⟩ v' (h.h1.cell 0);have:=h.qw;exact K4 (v:=.agg #[v']) (by simp [results,results63,go_sem,d,h2]) rfl ⟨⟨v',rfl,Yf b h.h1,c⟩,J8 h.rd O0 _ _,U7 h.bu P9 _ _⟩
theorem mi (is:List I3):(Q3 (qd is)).size<=300:=by
 rw [J3];unfold qd;split
 · rename_i h;exact h.2
 simp
theorem Bq (is:List M3):(Q3 (G.Db is)).size<=300:=by
 rw [J3];unfold G.Db;split
 · rename_i h;exact h.2
 simp
theorem mk_le {ms:List M3} (h:∀ x∈ms,x.le 4000) (i:Nat):(ms.getD i N7).le 1048576:=by
 rcases U5 i ms.length with a | a
 · rw [show ms.getD i N7=ms[i] from by simp [List.getD,a]]
   have:=h _ (Ea a);exact ⟨Z4 this.1 O0,Z4 this.2.1 O0,Z4 this.2.2 O0⟩
 rw [show ms.getD i N7=N7 from by simp [List.getD,a]];exact ⟨K3,K3,K3⟩
theorem Lv {w:World} {base:Nat} {v:Value} {ms:List M3} (h:w.ownsRow base 47 3 v ms.length (G.R5 ms)):∃ a c,v=.slice a ms.length c/\G.Ad w a ms:=G.J7 h
theorem II {w:World} {base:Nat} {e:TypeId} {size n:Nat} {v:Value} {xs:List Value} (h:w.ownsRow base e size v n xs):Src w v size n xs:=by
 rcases h.2 with ⟨rfl,h2⟩ | ⟨g,cap,cur,rfl,hb,b,hnc,hcm,hcs,a⟩
 · have h1:=h.1
   subst h2;exact .inl ⟨⟨0,rfl⟩,rfl,Ce.1 (by rw [h1];simp)⟩
 refine .inr ⟨⟨g,0,none⟩,cap,rfl,h.1,fun j u e=>?_⟩;rw [<- a,Mo] at e;split at e
 · rw [Qj,Z5 b,<- e];simp
 cases e
theorem sJ {w:World} {base:Nat} {e:TypeId} {size n m c:Nat} {a:Option Addr} {xs:List Value} (h:w.ownsRow base e size (.slice a m c) n xs) (hn:0<n):∃ g,a=some ⟨g,0,none⟩:=by
 rcases h.2 with ⟨_,h⟩ | ⟨g,_,_,h,_⟩
 · omega
 injection h with h _ _;exact ⟨g,h⟩
theorem mk_one (ms:List M3):∀ v∈G.R5 ms,v.oneCell'=true:=fun v hv=>by
 obtain ⟨x,_,h⟩:=Tk.1 hv;simp at h;rcases h with rfl | rfl | rfl <;> rfl
def MR (n:Nat) (xs:List Value):Prop:=xs.length=n*3/\∀ v∈xs,Hu 4000 v=true
theorem MR.get {n j:Nat} {xs:List Value} (h:MR n xs) (c:j<n*3):∃ s:ByteArray,xs[j]?=some (.string s)/\s.size<=4000:=by
 have a:j<xs.length:=by rw [h.1];exact c
 obtain ⟨s,e,b⟩:=L9.1 (h.2 _ (Ea a));exact ⟨s,by rw [F8 a,e],b⟩
theorem MR.set {n:Nat} {xs:List Value} (h:MR n xs) (j:Nat) {s:ByteArray} (a:s.size<=4000):MR n (xs.set j (.string s)):=
 ⟨by rw [Ed];exact h.1,fun v hv=>by
  rcases Sv hv with h1 | h1
  · exact h.2 v h1
  rw [h1];exact L9.2 ⟨s,rfl,a⟩⟩
theorem yN {ms:List M3} (h:∀ x∈ms,x.le 4000):MR ms.length (G.R5 ms):=⟨by induction ms <;> simp_all [G.R5];omega,fun v hv=>by
 obtain ⟨x,hx,h1⟩:=Tk.1 hv;simp at h1;rcases h1 with rfl | rfl | rfl
 · exact L9.2 ⟨_,rfl,(h x hx).1⟩
 · exact L9.2 ⟨_,rfl,(h x hx).2.1⟩
 exact L9.2 ⟨_,rfl,(h x hx).2.2⟩⟩
theorem AL {ms:List M3} (h:∀ x∈ms,x.le 4000):MR (1+ms.length) (G.R5 [⟨⟨#[119]⟩,⟨#[116,48]⟩,⟨#[97]⟩⟩]++G.R5 ms):=by
 have:=yN (ms:=⟨⟨#[119]⟩,⟨#[116,48]⟩,⟨#[97]⟩⟩::ms) (fun x hx=>by
  rcases D_.1 hx with rfl | hx
  · exact ⟨K3,K3,K3⟩
  exact h x hx)
 rw [u_,Nat.add_comm] at this;exact this
theorem MR.mk:∀ {n:Nat} {xs:List Value},MR n xs->∃ ms:List M3,ms.length=n/\xs=G.R5 ms/\∀ x∈ms,x.le 4000
 | 0,xs,h=>⟨[],rfl,by simpa [G.R5] using h.1,fun x h=>nomatch h⟩
 | n+1,[],h=>by simp [MR] at h
 | n+1,[_],h=>by have:=h.1;simp at this;omega
 | n+1,[_,_],h=>by have:=h.1;simp at this;omega
 | n+1,x::y::z::r,h=>by
  obtain ⟨a,rfl,f⟩:=L9.1 (h.2 x X0);obtain ⟨b,rfl,e⟩:=L9.1 (h.2 y X0);obtain ⟨c,rfl,d⟩:=L9.1 (h.2 z X0);obtain ⟨gs,h1,h2,h3⟩:=MR.mk (n:=n) (xs:=r) ⟨by have:=h.1;simp at this;omega,fun v hv=>h.2 v (by simp [hv])⟩;exact ⟨⟨a,b,c⟩::gs,by simp [h1],by rw [h2];rfl,fun x hx=>by rcases D_.1 hx with rfl | hx;exact ⟨f,e,d⟩;exact h3 x hx⟩
theorem ZQ (q P:Nat) (w:World) (hp:P<=10000) (l:D6 w q P):
 Calls prog 63 #[.pointer (some ⟨q,0,none⟩)] w fun e w'=>oI 40 q (P+1500) w e w':=by
 have HR:=M4 l;have hq:=l.lt;clear l;go_enter func63,ntmps63
 go_wp2_with fail
 go_loopw [4] (fun i wr=>∃ (k:Nat) (v:Value),i=.int .i64 k/\k<=3/\Hid (DS q (P+3*k) w v wr)) (fun i _=>3 - (intOf i).toNat)
 case atStart=>
  have b:Below w.heap.size w ((w.alloc (.cells #[.slice none 0 0] 25)).alloc (.cells #[.slice none 0 0] 25)):=dE _ _ _;exact ⟨0,.slice none 0 0,rfl,O0,⟨HR.out.later b,But.of_below b,hq,J_ (U1 w [_] 25) _,Uf (xs:=[_]) X0,⟨none,0,[],rfl,.inl rfl,X0,fun x h=>nomatch h⟩,fun k e=>nomatch e⟩⟩
 case round=>
  obtain ⟨k,v,rfl,hk,H⟩:=hrel;by_cases hlt:k<3
  · go_wp2_with fail
    refine (X5 wr q (P+3*k) 8 O0 O0 O0 H.out.rd).mono ?_;rintro e y1 ⟨⟨r,rfl,r0,r1⟩,l,ho⟩;have B:=M4 (H.out.call l ho.but);clear H l ho;by_cases R:0<r;rotate_left
    · go_wp2
      go_roundw
      case rel=>exact ⟨k+1,v,by go_num,O0,B.out.jl O0⟩
      case measure=>simp [intOf];omega
    obtain ⟨nm,hn1,hn2,hns⟩:∃ nm:ByteArray,(∀ u,(Instr.slice 9 (.string ⟨#[97,98,99]⟩) (some (.int .i64 (k:Int))) none none).run prog u=.ok (.string ((⟨#[97,98,99]⟩:ByteArray).extract k 3)) u)/\(∀ u,(Instr.slice 9 (.string ((⟨#[97,98,99]⟩:ByteArray).extract k 3)) none (some (.int .i64 1)) none).run prog u=.ok (.string nm) u)/\nm.size<=4000:=by
     obtain rfl | rfl | rfl:k=0\/k=1\/k=2:=O0
     · exact ⟨⟨#[97]⟩,fun u=>U2,fun u=>U2,K3⟩
     · exact ⟨⟨#[98]⟩,fun u=>U2,fun u=>U2,K3⟩
     exact ⟨⟨#[99]⟩,fun u=>U2,fun u=>U2,K3⟩
    go_wp2_with fail
    refine R8 (S:=fun u=>u.cell? ⟨w.heap.size+1,0,none⟩=some v) 7 U2 (B.out.h2.cell 0) fun f=>?_;obtain ⟨L,z⟩:∃ y:World,y=y1.drew:=⟨_,rfl⟩;rw [<- z] at f ⊢;have A:=M4 (B.out.later (u':=L) (by rw [z];exact (F4 _ _).drew));clear z B;refine lq 0 f ?_;refine lq 1 f ?_
    try simp only [qq]
    refine lq 2 f ?_
    try simp only [qq]
    refine lq 3 f ?_;refine lq 4 f ?_
    try simp only [qq]
    refine lr (i:=5) (o:=⟨some 22,.call ⟨.value (.func 68),#[.tmp 21],#[67]⟩,9,_,_,none⟩) rfl K3 U2 fun K d=>?_;go_simp;refine (qK q (P+3*k+1) L O0 A.out.rd).mono ?_;rintro e Q ⟨⟨x,rfl,hx⟩,l,b⟩;have p:=M4 (A.out.call l b);clear A l b f;go_simp;refine Z6 d (p.out.h2.cell 0) fun f=>?_;clear d K;refine lr (i:=6) (o:=⟨some 23,.call ⟨.value (.func 35),#[.tmp 17,.tmp 20,.tmp 22],#[25,9,9]⟩,25,_,_,none⟩) rfl K3 U2 fun K d=>?_;go_simp;refine (IJ v nm x Q O0 p.out.tr hns O0).mono ?_;rintro e J ⟨⟨v',rfl,t,hv⟩,b⟩;have C:=p.out.uM hv;have m:=M4 (p.out.later b);have n:=M4 (m.out.put t C);obtain ⟨a1,c1,f1,hv1,_⟩:=t;obtain ⟨a2,c2,f2,Z,_⟩:=m.out.tr;subst hv1 Z;clear p b f hv;go_simp;refine Z6 d (m.out.h2.cell 0) fun f=>?_;clear d K;refine lz (o:=⟨none,.store 25 (.tmp 3) (.tmp 23),0,_,_,none⟩) rfl U2 fun K d=>?_;have z2:=m.out.h2.cell 0;have zf:=m.out.h2.opn 0;dsimp only [List.getElem?_cons_zero] at z2;go_simp;clear f;refine d.out _ _ ?_;clear d K
    try simp only [qq]
    refine l_ U2 ?_ _;go_wp2;go_roundw
    case rel=>exact ⟨k+1,_,by go_num,O0,n.out.jl O0⟩
    case measure=>simp [intOf];omega
  go_wp2_with fail
  go_loopw [5,6] (fun i s wr=>∃ (k:Nat) (x:ByteArray) (v:Value),i=.int .i64 k/\k<=4/\Hid (DS q (P+9+70*k) w v wr)) (fun i _ _=>4 - (intOf i).toNat)
  case atStart=>exact ⟨0,⟨#[]⟩,v,rfl,O0,H.out.jl O0⟩
  case round=>
   clear H;obtain ⟨k,_,v,rfl,hk,H⟩:=hrel;have mark:=trivial;have AR:=trivial;by_cases hlt:k<4;rotate_left
   · go_wp2_with fail
     clear mark;refine (X5 wr q (P+9+70*k) 8 O0 O0 O0 H.out.rd).mono ?_;rintro e y1 ⟨⟨r,rfl,r0,r1⟩,l,ho⟩;have B:=M4 ((H.out.call l ho.but).jl (P':=P+300) O0);clear H l ho;rcases Ie (r=0) with R | R;rotate_left
     · have hrb:(r==0)=false:=by simpa using R
       go_wp2_with fail
       refine (PO q (P+300) y1 O0 B.out.rd).mono ?_;rintro e L ⟨v2,ms,rfl,E,hml⟩;have A:=M4 (B.out.call E.rd E.bu);obtain ⟨ma,mc,rfl,hat⟩:=Lv E.row;have HA:=M4 hat;have HS:=M4 E.sm;clear B E hat
       go_wp2_with fail
       refine (G.c64 ma mc ms L (mk_le HS.out) O0 HA.out).mono ?_;rintro e Q ⟨rfl,b⟩;have p:=M4 (A.out.later b);have hf:=Bq ms;clear A b HA HS;generalize Q3 (G.Db ms)=s at*
       go_wp2_with fail
       refine (X5 Q q (P+380) 24 O0 O0 O0 p.out.rd).mono ?_;rintro e J ⟨⟨r4,rfl,r40,r41⟩,l,ho⟩;have m:=M4 (p.out.call l ho.but);clear p l ho;rcases Ie (r4=0) with hr4 | hr4
       case' inl=>
        subst hr4
        go_wp2_with fail
        refine (kR q (P+381) s J O0 O0 m.out.rd).mono ?_;rintro e X ⟨⟨s5,rfl,hs5⟩,l,b⟩;have n:=M4 (m.out.call l b);clear m l b;revert AR
       case' inr=>
        have a4g:(r4==0)=false:=by simpa using hr4
        have n:=M4 (m.out.jl (P':=P+384) O0);have hs5:s.size<=2010:=O0;clear m;generalize J=X at*;generalize s=s5 at*;revert AR
       all_goals
        intro _;obtain ⟨a2,c2,f2,Z,_⟩:=n.out.tr;subst Z;have dX:=n.out.h2.cell 0;dsimp only [List.getElem?_cons_zero] at dX
        go_wp2_with fail
        refine (IJ _ ⟨#[112,108,97,110]⟩ s5 X O0 n.out.tr K3 O0).mono ?_;rintro e y6 ⟨⟨v',rfl,t,hv⟩,b⟩;have C:=n.out.uM hv;have D:=M4 (n.out.later b);have F:=M4 t;obtain ⟨a1,c1,f1,hv1,_⟩:=t;subst hv1;have d1:=D.out.h1.cell 0;have e1:=D.out.h1.opn 0;dsimp only [List.getElem?_cons_zero] at d1;clear n b hv dX;go_wp2;exact pK (D.out.jl O0) F.out C _ rfl
     subst R
     go_wp2_with fail
     refine R8 (S:=fun u=>u.cell? ⟨w.heap.size+1,0,none⟩=some v) 6 U2 (B.out.h2.cell 0) fun f=>?_;obtain ⟨L,z⟩:∃ y:World,y=y1.drew:=⟨_,rfl⟩;rw [<- z] at f ⊢;have A:=M4 (B.out.later (u':=L) (by rw [z];exact (F4 _ _).drew));clear z B;refine lq 0 f ?_;refine lq 1 f ?_
     try simp only [qq]
     refine lr (i:=2) (o:=⟨some 59,.call ⟨.value (.func 34),#[.tmp 58,.const (.int .i64 5)],#[67,3]⟩,3,_,_,none⟩) rfl K3 U2 fun K d=>?_;go_simp;refine (X5 L q (P+300) 5 O0 O0 O0 A.out.rd).mono ?_;rintro e Q ⟨⟨r3,rfl,r30,r31⟩,l,ho⟩;have p:=M4 (A.out.call l ho.but);clear A l ho f;go_simp;refine Z6 d (p.out.h2.cell 0) fun f=>?_;clear d K;refine lr (i:=3) (o:=⟨some 60,.call ⟨.value (.func 95),#[.tmp 59],#[3]⟩,126,_,_,none⟩) rfl K3 U2 fun K d=>?_;go_simp;refine (wO r3 Q).mono ?_;rintro e J ⟨⟨T,a,cap,rfl,V,TW,U⟩,b⟩;have m:=M4 (p.out.later b);have F:=M4 V.to;have W:=M4 U;clear p b V U f;go_simp;refine Z6 d (m.out.h2.cell 0) fun f=>?_;clear d K;refine lr (i:=4) (o:=⟨some 61,.call ⟨.value (.func 66),#[.tmp 60],#[126]⟩,9,_,_,none⟩) rfl K3 U2 fun K d=>?_;go_simp;refine (YB a cap T J (fun i=>Z4 (W.out i) O0) O0 F.out).mono ?_;rintro e X ⟨rfl,b⟩;have n:=M4 (m.out.later b);have hf:=mi T;clear m b F W f;generalize Q3 (qd T)=s at*;go_simp;refine Z6 d (n.out.h2.cell 0) fun f=>?_;clear d K;refine lr (i:=5) (o:=⟨some 62,.call ⟨.value (.func 35),#[.tmp 57,.const (.string ⟨#[97]⟩),.tmp 61],#[25,9,9]⟩,25,_,_,none⟩) rfl K3 U2 fun K d=>?_;go_simp;refine (IJ v ⟨#[97]⟩ s X O0 n.out.tr K3 O0).mono ?_;rintro e y6 ⟨⟨v6,rfl,t,hv⟩,b⟩;have C:=n.out.uM hv;have D:=M4 (n.out.later b);have I:=M4 (D.out.put t C);obtain ⟨a1,c1,f1,hv1,_⟩:=t;obtain ⟨a2,c2,f2,Z,_⟩:=D.out.tr;subst hv1 Z;clear n b f hv C;go_simp;refine Z6 d (D.out.h2.cell 0) fun f=>?_;clear d K;refine lz (o:=⟨none,.store 25 (.tmp 3) (.tmp 62),0,_,_,none⟩) rfl U2 fun K d=>?_;have Y:=D.out.h2.cell 0;have qf:=D.out.h2.opn 0;dsimp only [List.getElem?_cons_zero] at Y;go_simp;clear f;refine d.out _ _ ?_;clear d K Y qf D
     try simp only [qq]
     refine l_ U2 ?_ _;generalize (y6.setCell _ _)=y7 at*;generalize (Value.slice a1 f1.length c1)=v7 at I
     go_wp2_with fail
     refine R8 (S:=fun u=>u.cell? ⟨w.heap.size+1,0,none⟩=some v7) 9 U2 (I.out.h2.cell 0) fun f=>?_;obtain ⟨z0,z⟩:∃ y:World,y=y7.drew:=⟨_,rfl⟩;rw [<- z] at f ⊢;have G0:=M4 (I.out.later (u':=z0) (by rw [z];exact (F4 _ _).drew));clear z I;refine lq 0 f ?_
     try simp only [qq]
     refine lr (i:=1) (o:=⟨some 64,.call ⟨.value (.func 96),#[.const (.int .i64 2)],#[3]⟩,165,_,_,none⟩) rfl K3 U2 fun K d=>?_;go_simp;refine (lD 2 z0).mono ?_;rintro e z1 ⟨rfl,b⟩;have O:=M4 (G0.out.later b);clear G0 b f;go_simp;refine Z6 d (O.out.h2.cell 0) fun f=>?_;clear d K;refine lr (i:=2) (o:=⟨some 65,.call ⟨.value (.func 96),#[.const (.int .i64 3)],#[3]⟩,165,_,_,none⟩) rfl K3 U2 fun K d=>?_;go_simp;refine (lD 3 z1).mono ?_;rintro e z2 ⟨rfl,b⟩;have N:=M4 (O.out.later b);clear O b f;go_simp;refine Z6 d (N.out.h2.cell 0) fun f=>?_;clear d K;refine lr (i:=3) (o:=⟨some 66,.call ⟨.value (.func 96),#[.const (.int .i64 5)],#[3]⟩,165,_,_,none⟩) rfl K3 U2 fun K d=>?_;go_simp;refine (lD 5 z2).mono ?_;rintro e z3 ⟨rfl,b⟩;have G3:=M4 (N.out.later b);clear N b f;go_simp;refine Z6 d (G3.out.h2.cell 0) fun f=>?_;clear d K;refine lr (i:=4) (o:=⟨some 67,.call ⟨.value (.func 96),#[.const (.int .i64 10)],#[3]⟩,165,_,_,none⟩) rfl K3 U2 fun K d=>?_;go_simp;refine (lD 10 z3).mono ?_;rintro e z4 ⟨rfl,b⟩;have G4:=M4 (G3.out.later b);clear G3 b f;go_simp;refine Z6 d (G4.out.h2.cell 0) fun f=>?_;clear d K;refine lr (i:=5) (o:=⟨some 68,.buildSlice 124 4 #[(0,.tmp 64),(1,.tmp 65),(2,.tmp 66),(3,.tmp 67)],124,_,_,none⟩) rfl K3 U2 fun K d=>?_;go_simp;obtain ⟨z5,zU⟩:∃ y:World,y=z4.alloc (.cells (J5 [⟨2,⟨#[]⟩,0⟩,⟨3,⟨#[]⟩,0⟩,⟨5,⟨#[]⟩,0⟩,⟨10,⟨#[]⟩,0⟩]).toArray 165):=⟨_,rfl⟩;change K _ (z4.alloc (.cells (J5 [⟨2,⟨#[]⟩,0⟩,⟨3,⟨#[]⟩,0⟩,⟨5,⟨#[]⟩,0⟩,⟨10,⟨#[]⟩,0⟩]).toArray 165));rw [<- zU];have G5:=M4 (G4.out.later (u':=z5) (by rw [zU];exact bA));have IA:Hid (Da z5 (some ⟨z4.heap.size,0,none⟩) [⟨2,⟨#[]⟩,0⟩,⟨3,⟨#[]⟩,0⟩,⟨5,⟨#[]⟩,0⟩,⟨10,⟨#[]⟩,0⟩]):=by show Da _ _ _;rw [zU];exact nJ z4 _
     clear zU G4 f;refine Z6 d (G5.out.h2.cell 0) fun f=>?_;clear d K;refine lq 6 f ?_
     try simp only [qq]
     refine lr (i:=7) (o:=⟨some 70,.call ⟨.value (.func 66),#[.tmp 69],#[126]⟩,9,_,_,none⟩) rfl K3 U2 fun K d=>?_;go_simp;refine (YB (some ⟨z4.heap.size,0,none⟩) 4 [⟨2,⟨#[]⟩,0⟩,⟨3,⟨#[]⟩,0⟩,⟨5,⟨#[]⟩,0⟩,⟨10,⟨#[]⟩,0⟩] z5 (fun i=>Z4 (x_ (T:=[⟨2,⟨#[]⟩,0⟩,⟨3,⟨#[]⟩,0⟩,⟨5,⟨#[]⟩,0⟩,⟨10,⟨#[]⟩,0⟩]) rfl i) O0) K3 IA.out).mono ?_;rintro e z6 ⟨rfl,b⟩;have G6:=M4 (G5.out.later b);have hf6:=mi [⟨2,⟨#[]⟩,0⟩,⟨3,⟨#[]⟩,0⟩,⟨5,⟨#[]⟩,0⟩,⟨10,⟨#[]⟩,0⟩];clear G5 b IA f;generalize Q3 (qd [⟨2,⟨#[]⟩,0⟩,⟨3,⟨#[]⟩,0⟩,⟨5,⟨#[]⟩,0⟩,⟨10,⟨#[]⟩,0⟩])=s6 at*;go_simp;refine Z6 d (G6.out.h2.cell 0) fun f=>?_;clear d K;refine lr (i:=8) (o:=⟨some 71,.call ⟨.value (.func 35),#[.tmp 63,.const (.string ⟨#[116,48]⟩),.tmp 70],#[25,9,9]⟩,25,_,_,none⟩) rfl K3 U2 fun K d=>?_;go_simp;refine (IJ v7 ⟨#[116,48]⟩ s6 z6 O0 G6.out.tr K3 O0).mono ?_;rintro e z7 ⟨⟨v8,rfl,t,hv⟩,b⟩;have C:=G6.out.uM hv;have G7:=M4 (G6.out.later b);have G8:=M4 (G7.out.put t C);obtain ⟨a3,c3,f3,hv3,_⟩:=t;obtain ⟨a4,c17,f4,hv4,_⟩:=G7.out.tr;subst hv3 hv4;clear G6 b f hv C;go_simp;refine Z6 d (G7.out.h2.cell 0) fun f=>?_;clear d K;refine lz (o:=⟨none,.store 25 (.tmp 3) (.tmp 71),0,_,_,none⟩) rfl U2 fun K d=>?_;have Y:=G7.out.h2.cell 0;have qf:=G7.out.h2.opn 0;dsimp only [List.getElem?_cons_zero] at Y;go_simp;clear f;refine d.out _ _ ?_;clear d K Y qf G7
     try simp only [qq]
     refine l_ U2 ?_ _;generalize (z7.setCell _ _)=z8 at*;generalize aW:(Value.slice a3 f3.length c3)=v9 at G8;clear aW;obtain ⟨z9,hz9⟩:∃ y:World,y=z8.alloc (.cells #[.string ⟨#[119]⟩,.string ⟨#[116,48]⟩,.string ⟨#[97]⟩] 47):=⟨_,rfl⟩;have b9:Below z8.heap.size z8 z9:=by rw [hz9];exact bA
     have G9:=M4 (G8.out.later b9);have RW:Hid (z9.ownsRow z8.heap.size 47 3 (.slice (some ⟨z8.heap.size,0,none⟩) 1 1) 1 (G.R5 [⟨⟨#[119]⟩,⟨#[116,48]⟩,⟨#[97]⟩⟩])):=by show World.ownsRow _ _ _ _ _ _ _;rw [hz9];exact ⟨rfl,.inr ⟨_,1,_,rfl,Q6 _,Bn z8 _,Q6 _,K3,rfl,rfl⟩⟩
     go_wp2_with fail
     rw [<- hz9];clear hz9;have hq8:=G8.out.rd.lt;refine (PO q (P+301) z9 O0 G9.out.rd).mono ?_;rintro e z10 ⟨v10,ms,rfl,E,hml⟩;have B10:=M4 ((But.of_below b9).trans E.bu);have RD:=M4 E.rd;have R10:=M4 (Ih RW.out E.bu hq8);have SM:=M4 (II E.row);have HSM:=M4 E.sm;clear E RW G9 b9;obtain ⟨ma,mc,nY⟩:∃ a c,v10=.slice a ms.length c:=by
      rcases SM.out with ⟨⟨c,h⟩,h2,_⟩ | ⟨ad,c,h,_⟩
      · exact ⟨none,c,by rw [h,h2]⟩
      exact ⟨some ad,c,h⟩
     subst nY
     go_wp2_with (at_builtin;refine Ve rfl _ _ 44 rfl z8.heap.size 47 3 underlying44 LJ K3 _ 1 _ rfl R10.out _ ms.length (G.R5 ms) rfl SM.out (mk_one ms) O0 B10.out.size ?_;intro v11 z11 O2 g2 hn2;have kW:=ai (F4 z8.heap.size z10) g2 B10.out.size (fun j e=>(R10.out.lt j e).1);have G11:=M4 (G8.out.call (RD.out.H_ kW hq8) (B10.out.H_ kW P9));have BU:=M4 (B10.out.H_ kW P9);have YZ:=M4 O2;obtain ⟨na,nc,rfl⟩:=Nc O2;obtain ⟨g,rfl⟩:=sJ O2 O0;have hsr:=M4 (AL HSM.out);obtain ⟨s0,hs0,_⟩:=hsr.out.get (j:=ms.length*3+1) O0;have cg:=(YZ.out.cellAt (ms.length*3+1) O0).trans hs0;have fg:=YZ.out.frozenAt (ms.length*3+1);clear O2 g2 hn2 kW)
     obtain ⟨k1,k2⟩:=YZ.out.stored (ms.length*3+1) (.string ⟨#[119]⟩);obtain ⟨ZZ,hm1,hm2,hm3⟩:=(hsr.out.set (ms.length*3+1) (s:=⟨#[119]⟩) K3).mk;have WY:=ai (v:=.slice (some ⟨g,0,none⟩) (1+ms.length) nc) (F4 z8.heap.size z11) k2 (by have:=G11.out.h2.lt;have:=(YZ.out.lt g rfl);omega) (fun j e=>(YZ.out.lt j e).1);have G12:=M4 (G8.out.call (G11.out.rd.H_ WY hq8) (BU.out.H_ WY P9));have MA:Hid (∀ u,But q (z11.setCell ⟨g,ms.length*3+1,none⟩ (.string ⟨#[119]⟩)) u->G.Ad u (some ⟨g,0,none⟩) ZZ):=fun u hu=>by
      rw [hm2,<- hm1] at k1;obtain ⟨a,c,e1,e2⟩:=Lv (Ih k1 hu hq8);injection e1 with e1 _ _;rw [e1];exact e2
     clear k1 k2 hm2 YZ G11 BU WY hsr cg fg;generalize (z11.setCell _ _)=z12 at*;rw [<- hm1];have hm4:ZZ.length<=10:=O0;clear G8 hm1;refine F7 (S:=fun u=>u.cell? ⟨w.heap.size+1,0,none⟩=some v9) U2 (G12.out.h2.cell 0) fun f=>?_;obtain ⟨z13,XY⟩:∃ y:World,y=z12.drew:=⟨_,rfl⟩;rw [<- XY] at f ⊢;have bd:Below z12.heap.size z12 z13:=by rw [XY];exact (F4 _ _).drew
     have G13:=M4 (G12.out.later bd);have MK:=M4 (MA.out z13 (But.of_below bd));clear XY G12 bd MA;refine tq 0 f ?_;refine I4 1 f ?_;refine rq 2 fun K d=>?_;go_simp;refine (G.c64 (some ⟨g,0,none⟩) nc ZZ z13 (mk_le hm3) O0 MK.out).mono ?_;rintro e z14 ⟨rfl,b⟩;have G14:=M4 (G13.out.later b);have a4h:=Bq ZZ;clear G13 b MK f;generalize Q3 (G.Db ZZ)=s14 at*;go_simp;refine Z6 d (G14.out.h2.cell 0) fun f=>?_;clear d K;refine rq 3 fun K d=>?_;go_simp;refine (IJ v9 ⟨#[112,108,97,110]⟩ s14 z14 O0 G14.out.tr K3 O0).mono ?_;rintro e z15 ⟨⟨v15,rfl,t,hv⟩,b⟩;have C:=G14.out.uM hv;have G15:=M4 (G14.out.later b);have F:=M4 t;obtain ⟨a5,c5,f5,hv5,_⟩:=t;subst hv5;clear G14 b f hv;go_simp;refine Z6 d (G15.out.h2.cell 0) fun f=>?_;clear d K;refine rq 4 fun K d=>?_;have d1:=G15.out.h1.cell 0;have e1:=G15.out.h1.opn 0;dsimp only [List.getElem?_cons_zero] at d1;go_simp;have X1:=(G15.out.h2.on (I6 z15 w.heap.size 0 (.slice a5 f5.length c5)) O0).cell 0;clear f;refine Z6 d X1 fun f=>?_;clear d K;refine a_ ?_;clear f X1 d1 e1;go_wp2;exact pK (G15.out.jl O0) F.out C _ rfl
   go_wp2_with fail
   refine (MP q (P+9+70*k) wr O0 H.out.rd).mono ?_;rintro e y1 ⟨⟨T,a,cap,rfl,V,TW,U⟩,l,b⟩;have B:=M4 (H.out.call l b);have F:=M4 V.to;have W:=M4 U;clear H l b V U
   go_wp2_with fail
   refine (YB a cap T y1 (fun i=>Z4 (W.out i) O0) O0 F.out).mono ?_;rintro e L ⟨rfl,b⟩;have A:=M4 (B.out.later b);have hf:=mi T;clear B b F W;generalize Q3 (qd T)=s at*
   go_wp2_with fail
   refine (X5 L q (P+9+70*k+60) 24 O0 O0 O0 A.out.rd).mono ?_;rintro e Q ⟨⟨r,rfl,r0,r1⟩,l,ho⟩;have p:=M4 (A.out.call l ho.but);clear A l ho;rcases Ie (r=0) with R | R
   case' inl=>
    subst R
    go_wp2_with fail
    refine (qK q (P+9+70*k+61) Q O0 p.out.rd).mono ?_;rintro e J ⟨⟨s2,rfl,hs2⟩,l,b⟩;have m:=M4 ((p.out.call l b).jl (P':=P+9+70*k+63) O0);have hf:s2.size<=300:=O0;clear p l b hs2;generalize s2=s3 at*;revert mark
   case' inr=>
    have hrb:(r==0)=false:=by simpa using R
    have m:=M4 (p.out.jl (P':=P+9+70*k+63) O0);clear p;generalize Q=J at*;generalize s=s3 at*;revert mark
   all_goals
    intro _;rcases Ie (k=0) with hk0 | hk0
    case' inr=>
     have hkb:((k:Int)==0)=false:=by simpa using hk0
     have I:=M4 (m.out.jl (P':=P+9+70*k+64) O0);clear m;generalize J=y7 at*;generalize s3=s4 at*;revert AR
    case' inl=>
     have hkb:((k:Int)==0)=true:=by simpa using hk0
     clear hk0
     go_wp2_with fail
     refine (X5 J q (P+9+70*k+63) 2 O0 O0 O0 m.out.rd).mono ?_;rintro e X ⟨⟨r5,rfl,aO,r51⟩,l,ho⟩;have n:=M4 (m.out.call l ho.but);clear m l ho;rcases Ie (r5=0) with hr5 | hr5
     case' inl=>
      subst hr5
      go_wp2_with fail
      refine (wO 0 X).mono ?_;rintro e y6 ⟨⟨T,a,cap,rfl,V,TW,U⟩,b⟩;have D:=M4 (n.out.later b);have F:=M4 V.to;have W:=M4 U;clear n b V U
      go_wp2_with fail
      refine (YB a cap T y6 (fun i=>Z4 (W.out i) O0) O0 F.out).mono ?_;rintro e y7 ⟨rfl,b⟩;have I:=M4 (D.out.later b);have hf:=mi T;clear D b F W;generalize Q3 (qd T)=s4 at*;revert AR
     case' inr=>
      have hrb:(r5==0)=false:=by simpa using hr5
      have I:=M4 n.out;clear n;generalize X=y7 at*;generalize s3=s4 at*;revert AR
   all_goals
    intro _
    go_wp2_with fail
    refine (X5 y7 q (P+9+70*k+64) 20 O0 O0 O0 I.out.rd).mono ?_;rintro e y8 ⟨⟨r8,rfl,r80,r81⟩,l,ho⟩;have H8:=M4 (I.out.call l ho.but);clear I l ho;by_cases h8:0<r8;rotate_left
    · go_wp2
      go_roundw
      case rel=>exact ⟨k+1,⟨#[]⟩,v,by go_num,O0,H8.out.jl O0⟩
      case measure=>simp [intOf];omega
    go_wp2_with fail
    refine R8 (S:=fun u=>u.cell? ⟨w.heap.size+1,0,none⟩=some v) 6 U2 (H8.out.h2.cell 0) fun f=>?_;obtain ⟨y9,z⟩:∃ y:World,y=y8.drew:=⟨_,rfl⟩;rw [<- z] at f ⊢;have H9:=M4 (H8.out.later (u':=y9) (by rw [z];exact (F4 _ _).drew));clear z H8;refine lq 0 f ?_;refine lq 1 f ?_;refine lq 4 f ?_
    try simp only [qq]
    refine lr (i:=2) (o:=⟨some 50,.call ⟨.value (.func 33),#[.tmp 49],#[3]⟩,9,_,_,none⟩) rfl K3 U2 fun K d=>?_;go_simp;have hk9:k<100:=O0;have hdl:(Q3 (Lib.decDigits k)).size<=2:=by rw [J3];exact Sa k hk9
    refine (Rs k y9 hk9).mono ?_;rintro e z1 ⟨rfl,b⟩;have O:=M4 (H9.out.later b);clear H9 b f;generalize Q3 (Lib.decDigits k)=dk at*;have hnn:¬9223372036854775807<1+dk.size:=O0;go_simp;refine Z6 d (O.out.h2.cell 0) fun f=>?_;clear d K;refine lq 3 f ?_
    try simp only [qq]
    generalize hnm:(⟨#[116]⟩++dk:ByteArray)=nm;have hns:nm.size<=4000:=by rw [<- hnm,K9];have e1:ByteArray.size ⟨#[116]⟩=1:=rfl;omega
    clear hnm;refine lr (i:=5) (o:=⟨some 53,.call ⟨.value (.func 35),#[.tmp 48,.tmp 51,.tmp 52],#[25,9,9]⟩,25,_,_,none⟩) rfl K3 U2 fun K d=>?_;go_simp;refine (IJ v nm s4 z1 O0 O.out.tr hns O0).mono ?_;rintro e z2 ⟨⟨v',rfl,t,hv⟩,b⟩;have C:=O.out.uM hv;have N:=M4 (O.out.later b);have G3:=M4 (N.out.put t C);obtain ⟨a1,c1,f1,hv1,_⟩:=t;obtain ⟨a2,c2,f2,Z,_⟩:=N.out.tr;subst hv1 Z;clear O b f hv;go_simp;refine Z6 d (N.out.h2.cell 0) fun f=>?_;clear d K;refine lz (o:=⟨none,.store 25 (.tmp 3) (.tmp 53),0,_,_,none⟩) rfl U2 fun K d=>?_;have Y:=N.out.h2.cell 0;have qf:=N.out.h2.opn 0;dsimp only [List.getElem?_cons_zero] at Y;go_simp;clear f;refine d.out _ _ ?_;clear d K
    try simp only [qq]
    refine l_ U2 ?_ _;go_wp2;go_roundw
    case rel=>exact ⟨k+1,⟨#[]⟩,_,by go_num,O0,G3.out.jl O0⟩
    case measure=>simp [intOf];omega
end Go.Proofs.YtdjaajjndfbpmaaGreatDoor
