import Derived.Test.YtdjaajjndfbpmaaGreatDoorZ46
set_option linter.unusedVariables false
set_option maxHeartbeats 8000000
set_option maxRecDepth 100000
namespace Go.Proofs.YtdjaajjndfbpmaaGreatDoor
open Proofs.Tryz
open Go.RowKit
open G (jf H6)
open G.T (F2 P6 X3 F3)
variable {u u' w wr:World} {base i j k n:Nat} {tv v:Value} {ws:List W8} {vs xs:List Value} {E:Env} {m:M3} {ms:List M3} {y:W8}
def L8 (ws:List W8):List Value:=ws.flatMap W8.vs
theorem Qf (x:W8):x.vs.length=8:=rfl
theorem Cv (ws:List W8):(L8 ws).length=ws.length*8:=by
 induction ws with
 | nil=>rfl
 | cons x r ih=>unfold L8 at *;simp only [List.flatMap_cons,List.length_append,List.length_cons,Qf,ih];omega
theorem Ms (ws:List W8) (x:W8):L8 (ws++[x])=L8 ws++x.vs:=by simp [L8]
theorem av (ws:List W8) (i j:Nat) (h:i<ws.length) (hj:j<8):(L8 ws)[i*8+j]?=(ws.getD i J9).vs[j]?:=by
 induction ws generalizing i with
 | nil=>simp at h
 | cons x r ih=>
  show (x.vs++L8 r)[i*8+j]?=_
  cases i with
  | zero=>rw [Eb (by rw [Qf];omega)];simp
  | succ i=>
   rw [ji (by rw [Qf];omega),Qf];have:=ih i (by simpa using h);rw [show (i+1)*8+j - 8=i*8+j by omega];simpa using this
theorem iI (ws:List W8) (i:Nat) (y:W8) (h:i<ws.length):L8 (ws.set i y)=Tf (L8 ws) (i*8) y.vs:=by
 induction ws generalizing i with
 | nil=>simp at h
 | cons x r ih=>
  cases i with
  | zero=>
   show y.vs++L8 r=Tf (x.vs++L8 r) (0*8) y.vs;unfold Tf;rw [jk,List.take_zero,R7,Qf,<- Qf x,List.drop_left];simp
  | succ i=>
   show x.vs++L8 (r.set i y)=Tf (x.vs++L8 r) ((i+1)*8) y.vs;rw [ih i (by simpa using h)];unfold Tf;have a:(i+1)*8=x.vs.length+i*8:=by rw [Qf];omega
   rw [a,List.take_length_add_append,xk,List.drop_length_add_append];simp only [y_]
theorem Zp (h:w.ownsRow base 108 8 v ws.length (L8 ws)):∃ a c,v=.slice a ws.length c/\Zh w a ws:=by
 have k:=h;rcases h.2 with ⟨hv,h0⟩ | ⟨g,cap,cur,hv,hg,f,_⟩
 · exact ⟨none,0,by rw [hv,h0],.inl (Ce.1 h0)⟩
 refine ⟨some ⟨g,0,none⟩,cap,hv,?_⟩;subst hv;refine .inr ⟨g,0,rfl,Q4 f,fun i d j v e=>?_⟩;have b:j<8:=by have:=(Jd.1 e).1;rwa [Qf] at this
 rw [R7,k.cellAt _ O0,av ws i j d b];exact e
theorem Bw (hl:j+vs.length<=xs.length) (i:Nat):(Tf xs j vs)[i]?=if j<=i/\i<j+vs.length then vs[i - j]? else xs[i]?:=by
 unfold Tf;by_cases b:i<j
 · rw [R3 O0,y_,Eb J4,Rt b]
 by_cases a:i<j+vs.length
 · rw [Y3 ⟨O0,a⟩,y_,ji J4,Eb J4]
   congr 1
   simp;omega
 rw [R3 O0,ji J4,zq]
 congr 1
 simp;omega
theorem QC (h1:j+vs.length<=n) (h2:n<=xs.length):(Tf xs j vs).take n=Tf (xs.take n) j vs:=by
 apply vk;intro i;rw [Bw J4,Mo,Bw O0,Mo];by_cases h:j<=i/\i<j+vs.length
 · rw [Y3 h,Y3 h,Y3 O0]
 rw [R3 h,R3 h]
theorem UI {w':World} {g cap:Nat} (h:w.ownsRow base 108 8 (.slice (some ⟨g,0,none⟩) n cap) n (L8 ws)) (b:n=ws.length) (hi:i<n) (y:W8) (a:Cl w g 108 xs) (e:Cl w' g 108 (Tf xs (i*8) y.vs)):w'.ownsRow base 108 8 (.slice (some ⟨g,0,none⟩) n cap) n (L8 (ws.set i y)):=by
 refine ⟨by rw [Cv,Ed,b],?_⟩;rcases h.2 with ⟨hv,h0⟩ | ⟨g',cap',cur,hv,d,c,h1,h2,h3,f⟩
 · omega
 injection hv with hv _ hv2;injection hv with hv;injection hv with hv _ _;subst hv hv2;unfold Cl at a;rw [c] at a;injection a with a;injection a with a;subst a;refine .inr ⟨g,cap,_,rfl,d,e,h1,h2,?_,?_⟩
 · have:xs.length=cap*8:=by simpa using h3
   simp only [Br,Tf,Q7,Jk,Yn,Qf];omega
 have hx:xs.length=cap*8:=by simpa using h3
 rw [iI ws i y O0,<- f];exact QC (by rw [Qf];omega) O0
theorem UQ (E:Env) (a:Option Addr) (cap:Nat) (fs:List F2) (ms:List M3) (hE:E=P5 fs ms) (F g rc i:Nat) (ws:List W8) (w:World) (u0 u2 u4 u5 u6 u8 u9 u10 u11 u12 u13 u14 u15 u16 u17 u18 u19 u20 u21 u22 u23 u24 u25 u26 u27 u28 u29 u30 u31 u32 u33 u34 u35 u36 u37 u38 u39 u40 u41 u42 u43 u44 u45 u46 u47 u48 u49 u50 u51 u52 u53 u54 u55 u56 u57 u58 u59 u60 u61 u62 u63 u64 u65 u66 u67:Value) {Q:Exit->Act->World->Prop} (hQ:∀ c (a:Act) (d:Option Tmp) (v:Value) w,Q (.panic c) (a.put d v) w->Q (.panic c) a w)
 (HAT:Hid (F3 w a fs)) (ht:X3 fs) (hp:H6 fs ms) (GU:ws.length<=300) (OV:Hid (Zh w (some ⟨g,0,none⟩) ws)) (hwo:Hid (∀ i,i<ws.length->az E (ws.getD i J9))) (n:Nat) (hn:Hid (n=ws.length)) (hi:i<n) (x:W8) (hx:Hid (az E x)) (KU:Hid (Te w x)) (HXB:Hid (∀ k,x.lv.ownBlock=some k->k<w.heap.size)) (m:Hid (Cl w F 25 [.slice a fs.length cap])) (z:Hid (∀ j v,x.vs[j]?=some v->w.cell? ⟨g,i*8+j,none⟩=some v)) (C:g<w.heap.size)
 (ZV:∀ (t33 t34 t35 t36 t37 t38 t39:Value) (X:Nat) (y:W8) (w':World),w.heap.size<=X->Cl w' X 108 (Tf z8 0 y.vs)->Rm E (Rj fs ms ws) x y->Te w' y->Nw w x.lv y.lv->Below w.heap.size w w'->Q .normal { tmps:=#[u0,.pointer (some ⟨F,0,none⟩),u2,.slice (some ⟨g,0,none⟩) n rc,u4,u5,u6,.int .i64 i,.pointer (some ⟨X,0,none⟩),u9,u10,u11,u12,u13,u14,u15,u16,u17,u18,u19,u20,u21,u22,u23,u24,u25,u26,u27,u28,u29,u30,u31,u32,t33,t34,t35,t36,t37,t38,t39,u40,u41,u42,u43,u44,u45,u46,u47,u48,u49,u50,u51,u52,u53,u54,u55,u56,u57,u58,u59,u60,u61,u62,u63,u64,u65,u66,u67],defers:=[] } w'):
 (Code.region 13 #[⟨some 33,.load 25 (.tmp 1),25, "l4_want.go:102",#[],none⟩,⟨some 34,.move (.tmp 3),61, "l4_want.go:102",#[],none⟩,⟨some 35,.move (.tmp 3),61, "l4_want.go:102",#[],none⟩,⟨some 36,.move (.tmp 7),3, "l4_want.go:102",#[],none⟩,⟨some 37,.indexAddr 61 (.tmp 35) (.tmp 36),0, "l4_want.go:102",#[⟨2,.data⟩,⟨3,.data⟩],none⟩,⟨some 38,.load 108 (.tmp 37),108, "l4_want.go:102",#[⟨4,.data⟩],none⟩,⟨some 39,.call ⟨.value (.func 58),#[.tmp 33,.tmp 34,.tmp 38],#[25,61,108]⟩,108, "l4_want.go:102",#[⟨0,.data⟩,⟨1,.data⟩,⟨5,.data⟩],none⟩,⟨some 8,.alloc 108,0, "l4_want.go:102",#[],none⟩,⟨none,.store 108 (.tmp 8) (.tmp 39),0, "l4_want.go:102",#[⟨7,.data⟩,⟨6,.data⟩,⟨6,.chain⟩,⟨0,.phase⟩,⟨1,.phase⟩,⟨2,.phase⟩,⟨3,.phase⟩,⟨4,.phase⟩,⟨5,.phase⟩,⟨6,.phase⟩,⟨7,.phase⟩],none⟩] true).wp prog Q { tmps:=#[u0,.pointer (some ⟨F,0,none⟩),u2,.slice (some ⟨g,0,none⟩) n rc,u4,u5,u6,.int .i64 i,u8,u9,u10,u11,u12,u13,u14,u15,u16,u17,u18,u19,u20,u21,u22,u23,u24,u25,u26,u27,u28,u29,u30,u31,u32,u33,u34,u35,u36,u37,u38,u39,u40,u41,u42,u43,u44,u45,u46,u47,u48,u49,u50,u51,u52,u53,u54,u55,u56,u57,u58,u59,u60,u61,u62,u63,u64,u65,u66,u67],defers:=[] } w:=by
 refine F7 (S:=fun u=>Cl u F 25 [.slice a fs.length cap]/\∀ j v,x.vs[j]?=some v->u.cell? ⟨g,i*8+j,none⟩=some v) U2 ?_ fun f=>?_
 · exact ⟨m.out,z.out⟩
 obtain ⟨r,H⟩:∃ x:World,x=w.drew:=⟨_,rfl⟩;rw [<- H] at f ⊢;have J:Below w.heap.size w r:=by rw [H];exact (F4 _ w).drew
 have z0a:r.heap.size<=w.heap.size:=by rw [H];exact Q6 _
 have z0b:w.heap.size<=r.heap.size:=by rw [H];exact Q6 _
 clear H;have hi':(i:Int)<n:=O0;refine tq 0 f ?_ (v:=?_) (hv:=?e)
 case e=>intro wq hSw;(try dsimp only at hSw);have s1:wq.cell? ⟨F,0,none⟩=some (.slice a fs.length cap):=hSw.1.cell 0;go_simp;try with_reducible rfl
 refine I4 1 f ?_;refine tq 2 f ?_;refine I4 3 f ?_;refine I4 4 f ?_;refine tk (i:=5) (oi:=⟨some 38,.load 108 (.tmp 37),108,_,_,none⟩) (v:=.agg x.vs.toArray) rfl U2 rfl ?e f ?_ (hQ:=fun _ _ _ h=>hQ _ _ _ _ _ h)
 case e=>intro wq hSw;exact yg 108 _ rfl (by simp [go_sem]) hSw.2 underlying108 rfl U2
 try simp only [qq]
 refine Ma (rs:=[6,7]) U2 X0 (x8 (o:=⟨some 39,.call ⟨.value (.func 58),#[.tmp 33,.tmp 34,.tmp 38],#[25,61,108]⟩,108,_,_,none⟩) rfl (fun K l=>?_) (x8 (o:=⟨some 8,.alloc 108,0,_,_,none⟩) rfl (fun K l=>?_) Ra))
 · go_simp
   have I:=fQ E a cap fs ms hE (some ⟨g,0,none⟩) rc ws x r (G.T.U0 HAT.out J) ht hp GU (Xd OV.out J) hwo.out hx.out (KU.out.below J);rw [<- hn.out] at I;refine I.mono ?_;rintro e q ⟨y,rfl,U,A,O,kZ⟩;go_simp;have P:=J.trans (kZ.mono O0);clear f;refine Z6 l ?_ fun f=>?_
   · exact ⟨(P.block _ m.out.lt).trans m.out,fun j v e=>(P.cell (p:=⟨g,i*8+j,none⟩) C).trans (z.out j v e)⟩
   clear l K;refine rq 7 fun K l=>?_;go_simp;obtain ⟨R,L⟩:∃ x:World,x=q.alloc (.cells #[.string ⟨#[]⟩,.string ⟨#[]⟩,.string ⟨#[]⟩,.slice none 0 0,.bool false,.int .i64 0,.string ⟨#[]⟩,.string ⟨#[]⟩] 108):=⟨_,rfl⟩;rw [<- L];have hb2:Below q.heap.size q R:=by rw [L];exact bA
   have C8:Hid (Cl R q.heap.size 108 z8):=by show Cl _ _ _ _;rw [L];exact U1 q z8 108
   have s:=bT P hb2;have hsz1:=P.size;have V:=Q0 (A.below hb2);have Y:Hid (y.ls≠[]->∀ k,y.lv.ownBlock=some k->k≠q.heap.size):=fun hne k e=>by
    obtain ⟨a',c',h1,h2,_⟩:=A;rcases h2 with h2 | ⟨b,off,h3,h4,_⟩
    · exact absurd h2 hne
    rw [h1,h3] at e;have e':b=k:=j6 e;omega
   clear L;clear f;refine Z6 l ?_ fun f=>?_
   · exact ⟨(s.block _ m.out.lt).trans m.out,fun j v e=>(s.cell (p:=⟨g,i*8+j,none⟩) C).trans (z.out j v e)⟩
   clear l K;refine rq 8 fun K l=>?_;refine qh rfl 108 _ _ rfl (B:=q.heap.size) (j:=0) rfl (vs:=y.vs) rfl C8.out (by simp [z8,W8.vs]) (Kk y (by obtain ⟨a',c',h1,_⟩:=A;rw [h1];rfl)) U2 ?_;intro w4 W t;clear f;refine Z6 l ?_ fun f=>?_
   · exact ⟨((s.trans (t.below O0)).block _ m.out.lt).trans m.out,fun j v e=>((s.trans (t.below O0)).cell (p:=⟨g,i*8+j,none⟩) C).trans (z.out j v e)⟩
   clear l K;refine a_ ?_;refine ZV _ _ _ _ _ _ _ _ y _ ?_ W U (Te.wH V.out t Y.out rfl rfl) ?_ ?_
   · omega
   · exact fun k e=>by rcases O k e with h | h;exact .inl h;exact .inr O0
   exact s.trans (t.below O0)
 go_simp;obtain ⟨q,N⟩:∃ x:World,x=r.alloc (.cells #[.string ⟨#[]⟩,.string ⟨#[]⟩,.string ⟨#[]⟩,.slice none 0 0,.bool false,.int .i64 0,.string ⟨#[]⟩,.string ⟨#[]⟩] 108):=⟨_,rfl⟩;rw [<- N];have hb1:Below r.heap.size r q:=by rw [N];exact bA
 have Z:Hid (Cl q r.heap.size 108 z8):=by show Cl _ _ _ _;rw [N];exact U1 r z8 108
 have D:=J.trans (hb1.mono O0);have hsz1:r.heap.size<q.heap.size:=Z.out.lt;clear N;clear f;refine Z6 l ?_ fun f=>?_
 · exact ⟨(D.block _ m.out.lt).trans m.out,fun j v e=>(D.cell (p:=⟨g,i*8+j,none⟩) C).trans (z.out j v e)⟩
 clear l K;refine rq 6 fun K l=>?_;go_simp;have I:=fQ E a cap fs ms hE (some ⟨g,0,none⟩) rc ws x q (G.T.U0 HAT.out D) ht hp GU (Xd OV.out D) hwo.out hx.out (KU.out.below D);rw [<- hn.out] at I;refine I.mono ?_;rintro e R ⟨y,rfl,U,A,O,GR⟩;go_simp;have s:=bT D GR;have C8:=Q0 (Z.out.below GR Z.out.lt);have V:=Q0 A;have Y:Hid (y.ls≠[]->∀ k,y.lv.ownBlock=some k->k≠r.heap.size):=fun hne k e=>by
  rcases O k e with h | h
  · have:=HXB.out k h
    omega
  omega
 clear f;refine Z6 l ?_ fun f=>?_
 · exact ⟨(s.block _ m.out.lt).trans m.out,fun j v e=>(s.cell (p:=⟨g,i*8+j,none⟩) C).trans (z.out j v e)⟩
 clear l K;refine rq 8 fun K l=>?_;refine qh rfl 108 _ _ rfl (B:=r.heap.size) (j:=0) rfl (vs:=y.vs) rfl C8.out (by simp [z8,W8.vs]) (Kk y (by obtain ⟨a',c',h1,_⟩:=A;rw [h1];rfl)) U2 ?_;intro w4 W t;clear f;refine Z6 l ?_ fun f=>?_
 · exact ⟨((s.trans (t.below O0)).block _ m.out.lt).trans m.out,fun j v e=>((s.trans (t.below O0)).cell (p:=⟨g,i*8+j,none⟩) C).trans (z.out j v e)⟩
 clear l K;refine a_ ?_;refine ZV _ _ _ _ _ _ _ _ y _ ?_ W U (Te.wH V.out t Y.out rfl rfl) ?_ ?_
 · omega
 · exact fun k e=>by rcases O k e with h | h;exact .inl h;exact .inr O0
 exact s.trans (t.below O0)
theorem ZP (g l i n rc:Nat) (z x t:Bool) (p r:Option Addr) (f m yc q:Nat) (w:World) (u0 u1 u2 u4 u5 u9 u10 u11 u12 u13 u14 u15 u16 u17 u18 u19 u20 u21 u22 u23 u24 u25 u26 u27 u28 u29 u30 u31 u32 u33 u34 u35 u36 u37 u38 u39 u40 u41 u42 u43 u44 u45 u46 u47 u48 u49 u50 u51 u52 u53 u54 u55 u56 u57 u58 u59 u60 u61 u62 u63 u64 u65 u66 u67:Value) {Q:Exit->Act->World->Prop} (hQ:∀ c (a:Act) (d:Option Tmp) (v:Value) w,Q (.panic c) (a.put d v) w->Q (.panic c) a w)
 (hi:i<n) (h1:w.cell? ⟨l,4,none⟩=some (.bool x)) (h2:w.cell? ⟨l,3,none⟩=some (.slice p f yc)) (h3:w.cell? ⟨g,i*8+4,none⟩=some (.bool t)) (s:w.cell? ⟨g,i*8+3,none⟩=some (.slice r m q))
 (o:∀ (t40 t41 Z Y X W V U R P O N L K J I H F E D C B A:Value) (w':World),Below w.heap.size w w'->Q .normal { tmps:=#[u0,u1,u2,.slice (some ⟨g,0,none⟩) n rc,u4,u5,.bool (z || (x !=t) || (f !=m)),.int .i64 i,.pointer (some ⟨l,0,none⟩),u9,u10,u11,u12,u13,u14,u15,u16,u17,u18,u19,u20,u21,u22,u23,u24,u25,u26,u27,u28,u29,u30,u31,u32,u33,u34,u35,u36,u37,u38,u39,t40,t41,Z,Y,X,W,V,U,R,P,O,N,L,K,J,I,H,F,E,D,C,B,A,u63,u64,u65,u66,u67],defers:=[] } w'):
 (Code.region 14 #[⟨some 40,.move (.tmp 6),4, "l4_want.go:103",#[],none⟩,⟨some 41,.move (.tmp 40),4, "l4_want.go:103",#[⟨0,.data⟩],none⟩,⟨some 42,.fieldAddr 108 (.tmp 8) 2,0, "l4_want.go:103",#[⟨1,.guard⟩],some (1,false)⟩,⟨some 43,.load 4 (.tmp 42),4, "l4_want.go:103",#[⟨2,.data⟩,⟨1,.guard⟩],some (1,false)⟩,⟨some 44,.move (.tmp 3),61, "l4_want.go:103",#[⟨1,.guard⟩],some (1,false)⟩,⟨some 45,.move (.tmp 7),3, "l4_want.go:103",#[⟨1,.guard⟩],some (1,false)⟩,⟨some 46,.indexAddr 61 (.tmp 44) (.tmp 45),0, "l4_want.go:103",#[⟨4,.data⟩,⟨5,.data⟩,⟨1,.guard⟩],some (1,false)⟩,⟨some 47,.fieldAddr 108 (.tmp 46) 2,0, "l4_want.go:103",#[⟨6,.data⟩,⟨1,.guard⟩],some (1,false)⟩,⟨some 48,.load 4 (.tmp 47),4, "l4_want.go:103",#[⟨7,.data⟩,⟨1,.guard⟩],some (1,false)⟩,⟨some 49,.binOp .neq 4 (.tmp 43) (.tmp 48) 4,4, "l4_want.go:103",#[⟨3,.data⟩,⟨8,.data⟩,⟨1,.guard⟩],some (1,false)⟩,⟨some 50,.pick (.tmp 41) (.const (.bool true)) (.tmp 49),4, "l4_want.go:103",#[⟨1,.data⟩,⟨9,.data⟩],none⟩,⟨some 51,.move (.tmp 50),4, "l4_want.go:103",#[⟨10,.data⟩,⟨1,.chain⟩],none⟩,⟨some 52,.fieldAddr 108 (.tmp 8) 1,0, "l4_want.go:103",#[⟨11,.guard⟩],some (11,false)⟩,⟨some 53,.load 48 (.tmp 52),48, "l4_want.go:103",#[⟨12,.data⟩,⟨11,.guard⟩],some (11,false)⟩,⟨some 54,.call ⟨.builtin .len,#[.tmp 53],#[48]⟩,3, "l4_want.go:103",#[⟨13,.data⟩,⟨11,.guard⟩],some (11,false)⟩,⟨some 55,.move (.tmp 3),61, "l4_want.go:103",#[⟨11,.guard⟩],some (11,false)⟩,⟨some 56,.move (.tmp 7),3, "l4_want.go:103",#[⟨11,.guard⟩],some (11,false)⟩,⟨some 57,.indexAddr 61 (.tmp 55) (.tmp 56),0, "l4_want.go:103",#[⟨15,.data⟩,⟨16,.data⟩,⟨11,.guard⟩],some (11,false)⟩,⟨some 58,.fieldAddr 108 (.tmp 57) 1,0, "l4_want.go:103",#[⟨17,.data⟩,⟨11,.guard⟩],some (11,false)⟩,⟨some 59,.load 48 (.tmp 58),48, "l4_want.go:103",#[⟨18,.data⟩,⟨11,.guard⟩],some (11,false)⟩,⟨some 60,.call ⟨.builtin .len,#[.tmp 59],#[48]⟩,3, "l4_want.go:103",#[⟨19,.data⟩,⟨11,.guard⟩],some (11,false)⟩,⟨some 61,.binOp .neq 3 (.tmp 54) (.tmp 60) 3,4, "l4_want.go:103",#[⟨14,.data⟩,⟨20,.data⟩,⟨11,.guard⟩],some (11,false)⟩,⟨some 62,.pick (.tmp 51) (.const (.bool true)) (.tmp 61),4, "l4_want.go:103",#[⟨11,.data⟩,⟨21,.data⟩],none⟩,⟨some 6,.assign (.tmp 62),4, "l4_want.go:103",#[⟨22,.data⟩,⟨11,.chain⟩,⟨0,.phase⟩,⟨1,.phase⟩,⟨2,.phase⟩,⟨3,.phase⟩,⟨4,.phase⟩,⟨5,.phase⟩,⟨6,.phase⟩,⟨7,.phase⟩,⟨8,.phase⟩,⟨9,.phase⟩,⟨10,.phase⟩,⟨11,.phase⟩,⟨12,.phase⟩,⟨13,.phase⟩,⟨14,.phase⟩,⟨15,.phase⟩,⟨16,.phase⟩,⟨17,.phase⟩,⟨18,.phase⟩,⟨19,.phase⟩,⟨20,.phase⟩,⟨21,.phase⟩,⟨22,.phase⟩],none⟩] true).wp prog Q { tmps:=#[u0,u1,u2,.slice (some ⟨g,0,none⟩) n rc,u4,u5,.bool z,.int .i64 i,.pointer (some ⟨l,0,none⟩),u9,u10,u11,u12,u13,u14,u15,u16,u17,u18,u19,u20,u21,u22,u23,u24,u25,u26,u27,u28,u29,u30,u31,u32,u33,u34,u35,u36,u37,u38,u39,u40,u41,u42,u43,u44,u45,u46,u47,u48,u49,u50,u51,u52,u53,u54,u55,u56,u57,u58,u59,u60,u61,u62,u63,u64,u65,u66,u67],defers:=[] } w:=by
 have hi':(i:Int)<n:=O0;cases z;rotate_left
 · rw [show (true || (x !=t) || (f !=m))=true by simp] at o
   refine F7 (S:=fun u=>u.cell? ⟨l,4,none⟩=some (.bool x)/\u.cell? ⟨l,3,none⟩=some (.slice p f yc)/\u.cell? ⟨g,i*8+4,none⟩=some (.bool t)/\u.cell? ⟨g,i*8+3,none⟩=some (.slice r m q)) U2 ?_ fun b=>?_
   · exact ⟨h1,h2,h3,s⟩
   refine tq 0 b ?_;refine I4 1 b ?_;refine uq 2 b ?_;refine I8 3 b ?_;refine uq 4 b ?_;refine I8 5 b ?_;refine uq 6 b ?_;refine I8 7 b ?_;refine uq 8 b ?_;refine I8 9 b ?_;refine tq 10 b ?_;refine I4 11 b ?_;refine uq 12 b ?_;refine I8 13 b ?_;refine uq 14 b ?_;refine I8 15 b ?_;refine uq 16 b ?_;refine I8 17 b ?_;refine uq 18 b ?_;refine I8 19 b ?_;refine uq 20 b ?_;refine I8 21 b ?_;refine tq 22 b ?_;refine I4 23 b ?_;refine a_ ?_;exact o _ _ _ _ _ _ _ _ _ _ _ _ _ _ _ _ _ _ _ _ _ _ _ _ (F4 _ w).drew
 cases x
 · cases t
   rotate_left
   · refine F7 (S:=fun u=>u.cell? ⟨l,4,none⟩=some (.bool false)/\u.cell? ⟨l,3,none⟩=some (.slice p f yc)/\u.cell? ⟨g,i*8+4,none⟩=some (.bool true)/\u.cell? ⟨g,i*8+3,none⟩=some (.slice r m q)) U2 ?_ fun b=>?_
     · exact ⟨h1,h2,h3,s⟩
     refine tq 0 b ?_;refine I4 1 b ?_;refine tq 2 b ?_;refine tq 3 b ?_ (v:=?_) (hv:=?e)
     case e=>intro wq hSw;(try dsimp only at hSw);obtain ⟨k,j,h,s4⟩:=hSw;go_simp;try with_reducible rfl
     refine I4 4 b ?_;refine tq 5 b ?_;refine I4 6 b ?_;refine tq 7 b ?_;refine tq 8 b ?_ (v:=?_) (hv:=?e)
     case e=>intro wq hSw;(try dsimp only at hSw);obtain ⟨k,j,h,s4⟩:=hSw;go_simp;try with_reducible rfl
     refine I4 9 b ?_;refine tq 10 b ?_;refine I4 11 b ?_;refine uq 12 b ?_;refine I8 13 b ?_;refine uq 14 b ?_;refine I8 15 b ?_;refine uq 16 b ?_;refine I8 17 b ?_;refine uq 18 b ?_;refine I8 19 b ?_;refine uq 20 b ?_;refine I8 21 b ?_;refine tq 22 b ?_;refine I4 23 b ?_;refine a_ ?_;exact o _ _ _ _ _ _ _ _ _ _ _ _ _ _ _ _ _ _ _ _ _ _ _ _ (F4 _ w).drew
   by_cases y:f=m
   · subst y
     rw [show (false || (false !=false) || (f !=f))=false by simp] at o;refine F7 (S:=fun u=>u.cell? ⟨l,4,none⟩=some (.bool false)/\u.cell? ⟨l,3,none⟩=some (.slice p f yc)/\u.cell? ⟨g,i*8+4,none⟩=some (.bool false)/\u.cell? ⟨g,i*8+3,none⟩=some (.slice r f q)) U2 ?_ fun b=>?_
     · exact ⟨h1,h2,h3,s⟩
     refine tq 0 b ?_;refine I4 1 b ?_;refine tq 2 b ?_;refine tq 3 b ?_ (v:=?_) (hv:=?e)
     case e=>intro wq hSw;(try dsimp only at hSw);obtain ⟨k,j,h,s4⟩:=hSw;go_simp;try with_reducible rfl
     refine I4 4 b ?_;refine tq 5 b ?_;refine I4 6 b ?_;refine tq 7 b ?_;refine tq 8 b ?_ (v:=?_) (hv:=?e)
     case e=>intro wq hSw;(try dsimp only at hSw);obtain ⟨k,j,h,s4⟩:=hSw;go_simp;try with_reducible rfl
     refine I4 9 b ?_;refine tq 10 b ?_;refine I4 11 b ?_;refine tq 12 b ?_;refine tq 13 b ?_ (v:=?_) (hv:=?e)
     case e=>intro wq hSw;(try dsimp only at hSw);obtain ⟨k,j,h,s4⟩:=hSw;go_simp;try with_reducible rfl
     refine I4 14 b ?_;refine tq 15 b ?_;refine I4 16 b ?_;refine tq 17 b ?_;refine I4 18 b ?_;refine tq 19 b ?_ (v:=?_) (hv:=?e)
     case e=>intro wq hSw;(try dsimp only at hSw);obtain ⟨k,j,h,s4⟩:=hSw;go_simp;try with_reducible rfl
     refine I4 20 b ?_;refine tq 21 b ?_;refine I4 22 b ?_;refine I4 23 b ?_;refine a_ ?_;exact o _ _ _ _ _ _ _ _ _ _ _ _ _ _ _ _ _ _ _ _ _ _ _ _ (F4 _ w).drew
   have hl1:((f:Int) !=(m:Int))=true:=J4;rw [show (false || (false !=false) || (f !=m))=true by simp [y]] at o;refine F7 (S:=fun u=>u.cell? ⟨l,4,none⟩=some (.bool false)/\u.cell? ⟨l,3,none⟩=some (.slice p f yc)/\u.cell? ⟨g,i*8+4,none⟩=some (.bool false)/\u.cell? ⟨g,i*8+3,none⟩=some (.slice r m q)) U2 ?_ fun b=>?_
   · exact ⟨h1,h2,h3,s⟩
   refine tq 0 b ?_;refine I4 1 b ?_;refine tq 2 b ?_;refine tq 3 b ?_ (v:=?_) (hv:=?e)
   case e=>intro wq hSw;(try dsimp only at hSw);obtain ⟨k,j,h,s4⟩:=hSw;go_simp;try with_reducible rfl
   refine I4 4 b ?_;refine tq 5 b ?_;refine I4 6 b ?_;refine tq 7 b ?_;refine tq 8 b ?_ (v:=?_) (hv:=?e)
   case e=>intro wq hSw;(try dsimp only at hSw);obtain ⟨k,j,h,s4⟩:=hSw;go_simp;try with_reducible rfl
   refine I4 9 b ?_;refine tq 10 b ?_;refine I4 11 b ?_;refine tq 12 b ?_;refine tq 13 b ?_ (v:=?_) (hv:=?e)
   case e=>intro wq hSw;(try dsimp only at hSw);obtain ⟨k,j,h,s4⟩:=hSw;go_simp;try with_reducible rfl
   refine I4 14 b ?_;refine tq 15 b ?_;refine I4 16 b ?_;refine tq 17 b ?_;refine I4 18 b ?_;refine tq 19 b ?_ (v:=?_) (hv:=?e)
   case e=>intro wq hSw;(try dsimp only at hSw);obtain ⟨k,j,h,s4⟩:=hSw;go_simp;try with_reducible rfl
   refine I4 20 b ?_;refine tq 21 b ?_;refine I4 22 b ?_;refine I4 23 b ?_;refine a_ ?_;exact o _ _ _ _ _ _ _ _ _ _ _ _ _ _ _ _ _ _ _ _ _ _ _ _ (F4 _ w).drew
 cases t
 · refine F7 (S:=fun u=>u.cell? ⟨l,4,none⟩=some (.bool true)/\u.cell? ⟨l,3,none⟩=some (.slice p f yc)/\u.cell? ⟨g,i*8+4,none⟩=some (.bool false)/\u.cell? ⟨g,i*8+3,none⟩=some (.slice r m q)) U2 ?_ fun b=>?_
   · exact ⟨h1,h2,h3,s⟩
   refine tq 0 b ?_;refine I4 1 b ?_;refine tq 2 b ?_;refine tq 3 b ?_ (v:=?_) (hv:=?e)
   case e=>intro wq hSw;(try dsimp only at hSw);obtain ⟨k,j,h,s4⟩:=hSw;go_simp;try with_reducible rfl
   refine I4 4 b ?_;refine tq 5 b ?_;refine I4 6 b ?_;refine tq 7 b ?_;refine tq 8 b ?_ (v:=?_) (hv:=?e)
   case e=>intro wq hSw;(try dsimp only at hSw);obtain ⟨k,j,h,s4⟩:=hSw;go_simp;try with_reducible rfl
   refine I4 9 b ?_;refine tq 10 b ?_;refine I4 11 b ?_;refine uq 12 b ?_;refine I8 13 b ?_;refine uq 14 b ?_;refine I8 15 b ?_;refine uq 16 b ?_;refine I8 17 b ?_;refine uq 18 b ?_;refine I8 19 b ?_;refine uq 20 b ?_;refine I8 21 b ?_;refine tq 22 b ?_;refine I4 23 b ?_;refine a_ ?_;exact o _ _ _ _ _ _ _ _ _ _ _ _ _ _ _ _ _ _ _ _ _ _ _ _ (F4 _ w).drew
 by_cases y:f=m
 · subst y
   rw [show (false || (true !=true) || (f !=f))=false by simp] at o;refine F7 (S:=fun u=>u.cell? ⟨l,4,none⟩=some (.bool true)/\u.cell? ⟨l,3,none⟩=some (.slice p f yc)/\u.cell? ⟨g,i*8+4,none⟩=some (.bool true)/\u.cell? ⟨g,i*8+3,none⟩=some (.slice r f q)) U2 ?_ fun b=>?_
   · exact ⟨h1,h2,h3,s⟩
   refine tq 0 b ?_;refine I4 1 b ?_;refine tq 2 b ?_;refine tq 3 b ?_ (v:=?_) (hv:=?e)
   case e=>intro wq hSw;(try dsimp only at hSw);obtain ⟨k,j,h,s4⟩:=hSw;go_simp;try with_reducible rfl
   refine I4 4 b ?_;refine tq 5 b ?_;refine I4 6 b ?_;refine tq 7 b ?_;refine tq 8 b ?_ (v:=?_) (hv:=?e)
   case e=>intro wq hSw;(try dsimp only at hSw);obtain ⟨k,j,h,s4⟩:=hSw;go_simp;try with_reducible rfl
   refine I4 9 b ?_;refine tq 10 b ?_;refine I4 11 b ?_;refine tq 12 b ?_;refine tq 13 b ?_ (v:=?_) (hv:=?e)
   case e=>intro wq hSw;(try dsimp only at hSw);obtain ⟨k,j,h,s4⟩:=hSw;go_simp;try with_reducible rfl
   refine I4 14 b ?_;refine tq 15 b ?_;refine I4 16 b ?_;refine tq 17 b ?_;refine I4 18 b ?_;refine tq 19 b ?_ (v:=?_) (hv:=?e)
   case e=>intro wq hSw;(try dsimp only at hSw);obtain ⟨k,j,h,s4⟩:=hSw;go_simp;try with_reducible rfl
   refine I4 20 b ?_;refine tq 21 b ?_;refine I4 22 b ?_;refine I4 23 b ?_;refine a_ ?_;exact o _ _ _ _ _ _ _ _ _ _ _ _ _ _ _ _ _ _ _ _ _ _ _ _ (F4 _ w).drew
 have hl1:((f:Int) !=(m:Int))=true:=J4;rw [show (false || (true !=true) || (f !=m))=true by simp [y]] at o;refine F7 (S:=fun u=>u.cell? ⟨l,4,none⟩=some (.bool true)/\u.cell? ⟨l,3,none⟩=some (.slice p f yc)/\u.cell? ⟨g,i*8+4,none⟩=some (.bool true)/\u.cell? ⟨g,i*8+3,none⟩=some (.slice r m q)) U2 ?_ fun b=>?_
 · exact ⟨h1,h2,h3,s⟩
 refine tq 0 b ?_;refine I4 1 b ?_;refine tq 2 b ?_;refine tq 3 b ?_ (v:=?_) (hv:=?e)
 case e=>intro wq hSw;(try dsimp only at hSw);obtain ⟨k,j,h,s4⟩:=hSw;go_simp;try with_reducible rfl
 refine I4 4 b ?_;refine tq 5 b ?_;refine I4 6 b ?_;refine tq 7 b ?_;refine tq 8 b ?_ (v:=?_) (hv:=?e)
 case e=>intro wq hSw;(try dsimp only at hSw);obtain ⟨k,j,h,s4⟩:=hSw;go_simp;try with_reducible rfl
 refine I4 9 b ?_;refine tq 10 b ?_;refine I4 11 b ?_;refine tq 12 b ?_;refine tq 13 b ?_ (v:=?_) (hv:=?e)
 case e=>intro wq hSw;(try dsimp only at hSw);obtain ⟨k,j,h,s4⟩:=hSw;go_simp;try with_reducible rfl
 refine I4 14 b ?_;refine tq 15 b ?_;refine I4 16 b ?_;refine tq 17 b ?_;refine I4 18 b ?_;refine tq 19 b ?_ (v:=?_) (hv:=?e)
 case e=>intro wq hSw;(try dsimp only at hSw);obtain ⟨k,j,h,s4⟩:=hSw;go_simp;try with_reducible rfl
 refine I4 20 b ?_;refine tq 21 b ?_;refine I4 22 b ?_;refine I4 23 b ?_;refine a_ ?_;exact o _ _ _ _ _ _ _ _ _ _ _ _ _ _ _ _ _ _ _ _ _ _ _ _ (F4 _ w).drew
def wz (m:M3):W8:=⟨toM m,.slice none 0 0,[],false,0,⟨#[]⟩,⟨#[]⟩⟩
structure ay (E:Env) (w:World) (tv v:Value) (ws:List W8) (wr:World):Prop where
 t1:Cl wr w.heap.size 25 [tv]
 row:wr.ownsRow w.heap.size 108 8 v ws.length (L8 ws)
 ok:∀ i,i<ws.length->az E (ws.getD i J9)
 lv:∀ i,i<ws.length->Te wr (ws.getD i J9)
 nb:∀ i,i<ws.length->∀ k,(ws.getD i J9).lv.ownBlock=some k->v.ownBlock≠some k
 bl:Below w.heap.size w wr
theorem ay.below (h:ay E w tv v ws wr) (a:Below wr.heap.size wr u):ay E w tv v ws u:=
 ⟨h.t1.below a h.t1.lt,ownsRow_below h.row a,h.ok,fun i b=>(h.lv i b).below a,h.nb,h.bl.trans (a.mono h.bl.size)⟩
theorem wN (h:toM m∈E.ms):az E (wz m):=⟨h,.nil _,(fun h=>by cases h),fun h=>by cases h⟩
theorem yM (w:World) (m:M3):Te w (wz m):=⟨none,0,rfl,.inl rfl,fun k e=>by cases e⟩
theorem oN (l:List M3) (i:Nat):((l.map wz).getD i J9).ls=[]/\((l.map wz).getD i J9).lv.ownBlock=none:=by
 rw [Ao,Kb];cases l[i]? <;> exact ⟨rfl,rfl⟩
theorem eD {α:Type} (l:List α) (x d:α) (i:Nat) (h:i<(l++[x]).length):(i<l.length/\(l++[x]).getD i d=l.getD i d)\/(i=l.length/\(l++[x]).getD i d=x):=by
 rcases U5 i l.length with h1 | h1
 · exact .inl ⟨h1,by simp [List.getD,Eb h1]⟩
 have:i=l.length:=by simp at h;omega
 subst this;exact .inr ⟨rfl,by simp [List.getD]⟩
theorem QF (h:k<ms.length):ms.take (k+1)=ms.take k++[ms.getD k N7]:=by
 rw [Rh h];simp [List.getD,F8 h]
theorem ay.snoc {v':Value} (h:ay E w tv v ws wr) (l:toM m∈E.ms) (d:Below wr.heap.size wr u) (b:u.grownBy u' v.ownBlock) (f:u'.ownsRow w.heap.size 108 8 v' (ws.length+1) (L8 ws++(wz m).vs)) (j:∀ i,i<ws.length->(ws.getD i J9).ls=[]/\(ws.getD i J9).lv.ownBlock=none):ay E w tv v' (ws++[wz m]) u':=by
 have o:∀ k,v.ownBlock=some k->w.heap.size<=k:=fun k e=>(h.row.lt k e).1;have c:∀ i,i<(ws++[wz m]).length->(((ws++[wz m]).getD i J9).ls=[]/\((ws++[wz m]).getD i J9).lv.ownBlock=none)/\az E ((ws++[wz m]).getD i J9)/\∀ u:World,Below wr.heap.size wr u->Te u ((ws++[wz m]).getD i J9):=fun i a=>by
  rcases eD ws (wz m) J9 i a with ⟨h1,e⟩ | ⟨_,e⟩
  · rw [e];exact ⟨j i h1,h.ok i h1,fun u p=>(h.lv i h1).below p⟩
  rw [e];exact ⟨⟨rfl,rfl⟩,wN l,fun u _=>yM u m⟩
 refine ⟨?_,by rw [Ms,Q7];exact f,fun i a=>(c i a).2.1,fun i a=>?_,(fun i a k e=>by rw [(c i a).1.2] at e;cases e),?_⟩
 · have h1:=h.t1.below d h.t1.lt
   refine (b.block _ h1.lt (fun e=>?_)).trans h1;rcases h.row.2 with ⟨hv,_⟩ | ⟨g,cap,cur,hv,_,n,_⟩
   · rw [hv] at e;cases e
   rw [hv] at e;have e:w.heap.size=g:=j6 e;subst e;have h2:=h.t1;unfold Cl at h2;rw [n] at h2;injection h2 with h2;injection h2 with _ h2;cases h2
 · obtain ⟨r,q,h1,h2,h3⟩:=(c i a).2.2 u d
   exact ⟨r,q,h1,.inl (c i a).1.1,fun k e=>by rw [(c i a).1.2] at e;cases e⟩
 exact h.bl.trans ((d.mono h.bl.size).trans ⟨b.os,b.tape,b.output,b.size,fun k hk=>b.block k (by have:=h.bl.size;have:=d.size;omega) (fun e=>by have:=o k e.symm;omega)⟩)
def key (y:W8):M3×List M.L4×Bool:=(y.m,y.ls,y.ov)
def pw (y:W8):Nat:=16 - y.ls.length+(if y.ov then 0 else 1)
def Lx (ws:List W8):Nat:=(ws.map pw).sum
theorem RH (ws:List W8) (i:Nat) (y:W8) (h:i<ws.length):Lx (ws.set i y)+pw (ws.getD i J9)=Lx ws+pw y:=by
 induction ws generalizing i with
 | nil=>simp at h
 | cons x r ih=>
  cases i with
  | zero=>simp [Lx];omega
  | succ i=>
   have:=ih i (by simpa using h);simp [Lx] at this ⊢;omega
theorem fC {fs:List F2} {a:List W8} (h:ws.map key=a.map key) (n:ByteArray):(Rj fs ms ws n).2=(Rj fs ms a n).2:=by
 have b:∀ l:List W8,(L_ l n).map key=(l.map key).find? fun q=>decide (q.1.nm=n):=fun l=>by
  rw [List.find?_map];rfl
 have e:(L_ ws n).map key=(L_ a n).map key:=by rw [b,b,h]
 unfold Rj
 cases jf fs ms n with
 | some p=>rfl
 | none=>
  cases h1:L_ ws n <;> cases h2:L_ a n <;> rw [h1,h2] at e <;> simp [key] at e ⊢
  exact e.2.2
theorem gI {kn:ByteArray->R2×Bool} {x:W8} (h:Rm E kn x y) (hy:y.ls.length<=15):pw y<=pw x/\(((y.ov !=x.ov) || (y.ls.length !=x.ls.length))=true->pw y<pw x)/\(((y.ov !=x.ov) || (y.ls.length !=x.ls.length))=false->key y=key x):=by
 have hl:=h.pre.length_le;cases hx:x.ov
 · cases wS:y.ov
   · refine ⟨by simp [pw,hx,wS];omega,fun c=>?_,fun c=>?_⟩
     · simp at c
       simp [pw,hx,wS];omega
     simp at c;have:x.ls=y.ls:=h.pre.eq_of_length c.symm;simp [key,h.m,this,hx,wS]
   exact ⟨by simp [pw,hx,wS];omega,fun _=>by simp [pw,hx,wS];omega,fun c=>by simp at c⟩
 have:=h.ovd hx;subst this;exact ⟨Q6 _,fun c=>by simp [hx] at c,fun _=>rfl⟩
def VJ (fs:List F2) (ms:List M3) (ws:List W8) (y:W8):Prop:=y.ov=false->(tn y.m y.ls).over=false/\(tn y.m y.ls).has=false/\(Rj fs ms ws (tn y.m y.ls).name).2=false/\y.wt=(tn y.m y.ls).name
theorem Dq (a:i<ws.length):(ws.set i y).getD j J9=if i=j then y else ws.getD j J9:=by
 simp only [Ao,Tm];by_cases h:i=j
 · subst h;simp [a]
 simp [h]
theorem tJ (h:key y=key (ws.getD i J9)):(ws.set i y).map key=ws.map key:=by
 apply vk;intro j;rw [Kb,Kb,Tm];by_cases b:i=j
 · subst b
   by_cases a:i<ws.length
   · rw [Y3 rfl,Y3 a,F8 a]
     rw [Ao,F8 a] at h;simp at h ⊢;exact h
   rw [Y3 rfl,R3 a,Xe O0]
 rw [R3 b]
theorem ay.set {g rc:Nat} (h:ay E w tv (.slice (some ⟨g,0,none⟩) n rc) ws u) (b:n=ws.length) (p:i<n) (f:Cl u g 108 xs) (r:Cl u' g 108 (Tf xs (i*8) y.vs)) (ho:kr g u u') (m:az E y) (o:Te u y) (l:∀ k,y.lv.ownBlock=some k->k≠g):ay E w tv (.slice (some ⟨g,0,none⟩) n rc) (ws.set i y) u':=by
 have q:=(h.row.lt g rfl).1;have c:∀ j,(ws.set i y).getD j J9=if i=j then y else ws.getD j J9:=fun j=>Dq O0;have d:=h.row;rw [<- b] at d;refine ⟨h.t1.on ho ((h.t1.ne f K3)),by rw [Ed,<- b];exact UI d b p y f r,fun j a=>?_,fun j a=>?_,fun j a k e=>?_,h.bl.trans (ho.below q)⟩
 · rw [c]
   split
   · exact m
   exact h.ok j (by simpa using a)
 · rw [c]
   split
   · exact o.wH ho (fun _ k e=>l k e) rfl rfl
   refine (h.lv j (by simpa using a)).wH ho (fun _ k e=>?_) rfl rfl;have:=h.nb j (by simpa using a) k e;simpa [Value.ownBlock,eq_comm] using this
 rw [c] at e;split at e
 · have:=l k e
   simpa [Value.ownBlock,eq_comm] using this
 exact h.nb j (by simpa using a) k e
theorem gQ (E:Env) (a:Option Addr) (cap:Nat) (fs:List F2) (ms:List M3) (hE:E=P5 fs ms) (w:World) (hat:F3 w a fs) (J:X3 fs) (S:H6 fs ms):
 Calls prog 26 #[.agg #[.slice a fs.length cap]] w fun e w'=>∃ (v:Value) (ws:List W8),e=.returned v/\ay E w (.slice a fs.length cap) v ws w'/\ws.map (·.m)=ms.map toM/\(∀ i,i<ws.length->VJ fs ms ws (ws.getD i J9)):=by
 have HAT:=Q0 hat;have HT:=Q0 J;have HP:=Q0 S;have HE:=Q0 hE;have xS:Hid (Y7 E):=by unfold Hid;rw [hE];exact zb J S
 have hfl:fs.length<=1048576:=by have:=J.1;omega
 have HF:=Q0 (Xl J);have hml:=Fa S;have HMM:Hid (∀ k,k<ms.length->toM (ms.getD k N7)∈E.ms):=fun k V=>by rw [hE];exact jd.2 ⟨k,V,rfl⟩
 clear hat J S hE;go_enter func26,ntmps26
 go_wp2_with fail
 obtain ⟨w0,I⟩:∃ u:World,u=(w.alloc (.cells #[.slice a fs.length cap] 25)).alloc (.cells #[] 108):=⟨_,rfl⟩;rw [<- I];have hb0:Below w.heap.size w w0:=by rw [I];exact bA.alloc X0 _
 have H0:Hid (ay E w (.slice a fs.length cap) (.slice (some ⟨w.heap.size+1,0,none⟩) 0 0) [] w0):=by
  refine ⟨?_,?_,fun i h=>absurd h (F5 _),fun i h=>absurd h (F5 _),fun i h=>absurd h (F5 _),hb0⟩
  · rw [I];exact J_ (U1 w [.slice a fs.length cap] 25) _
  rw [I];have:=Gm (base:=w.heap.size) (e:=108) (size:=8) (w.alloc (.cells #[.slice a fs.length cap] 25)) #[] 0 X0 (I5 _) rfl;simp only [Wn] at this;exact this
 clear I;refine (G.c16 a cap fs w0 hfl HF.out (G.T.U0 HAT.out hb0)).mono ?_;rintro e w1 ⟨⟨ms',ma,mc,rfl,hmk,hpt⟩,hb1⟩;obtain rfl:=G.o_ HP.out hpt;have H1:=Q0 (H0.out.below hb1);have WX:=Q0 hmk;have hB1:Below w.heap.size w w1:=H1.out.bl;clear hmk hpt hb1 H0 hb0
 go_wp2_with fail
 have a0T:Hid (∀ j,w1.cell? ⟨w.heap.size+1,j,none⟩=none):=fun j=>by
  rcases H1.out.row.2 with ⟨hv,_⟩ | ⟨g,cap',cur,hv,_,D,_,_,hs,_⟩
  · cases hv
  injection hv with hv _ hc;injection hv with hv;injection hv with hv _ _;subst hv hc;rw [Z5 D,Yj O0]
 go_loopw [3,5] (fun v3 v5 wr=>∃ k:Nat,k<=ms.length/\v5=.int .i64 k/\Hid (ay E w (.slice a fs.length cap) v3 ((ms.take k).map wz) wr)/\Hid (Ex (fun k=>k=w.heap.size+1) w1 wr)/\Hid (v3.ownBlock=some (w.heap.size+1)\/∀ k,v3.ownBlock=some k->w1.heap.size<=k)) (fun _ v5 _=>ms.length - (intOf v5).toNat)
 case atStart=>exact ⟨0,I5 _,rfl,H1.out,Ex.refl _ _,.inl rfl⟩
 obtain ⟨k,V,rfl,C,A,UW⟩:=hrel;have hlen:((ms.take k).map wz).length=k:=J4;by_cases r:k<ms.length
 · rcases WX.out with h0 | ⟨Q,mo,ha,hmb,K⟩
   · rw [h0] at r;exact absurd r (F5 _)
   subst ha;have U:Q≠w.heap.size+1:=fun e=>by
    have:=(K k r).1;rw [e,a0T.out] at this;cases this
   have Y:∀ j,wr.cell? ⟨Q,j,none⟩=w1.cell? ⟨Q,j,none⟩:=fun j=>Xz (A.out.block Q hmb U);have g0:=(Y _).trans (K k r).1;have g1:=(Y _).trans (K k r).2.1;have g2:=(Y _).trans (K k r).2.2;have a2M:=Q0 (HMM.out k r);have HTK:Hid ((ms.take (k+1)).map wz=(ms.take k).map wz++[wz (ms.getD k N7)]):=by show _=_;rw [QF r,mf];rfl
   generalize ms.getD k N7=m at*;have F:Hid ((wr.alloc (.cells #[.string m.nm,.string m.tl,.string m.ar,.slice none 0 0,.bool false,.int .i64 0,.string ⟨#[]⟩,.string ⟨#[]⟩] 108)).ownsRow w.heap.size 108 8 u3 k (L8 ((ms.take k).map wz))):=Q0 (by have:=C.out.row;rw [hlen] at this;exact this.alloc _);have a0U:Hid (Src (wr.alloc (.cells #[.string m.nm,.string m.tl,.string m.ar,.slice none 0 0,.bool false,.int .i64 0,.string ⟨#[]⟩,.string ⟨#[]⟩] 108)) (.slice (some ⟨wr.heap.size,0,none⟩) 1 1) 8 1 (wz m).vs):=Q0 (.inr ⟨⟨wr.heap.size,0,none⟩,1,rfl,rfl,za (U1 wr (wz m).vs 108)⟩);have H1C:Hid (∀ v∈(wz m).vs,v.oneCell'=true):=Q0 (Kk (wz m) rfl);have hba:w.heap.size<=(wr.alloc (.cells #[.string m.nm,.string m.tl,.string m.ar,.slice none 0 0,.bool false,.int .i64 0,.string ⟨#[]⟩,.string ⟨#[]⟩] 108)).heap.size:=by have:=C.out.bl.size;simp;omega
   clear K Y
   go_wp2_with (refine Ve rfl _ _ 61 rfl w.heap.size 108 8 underlying61 WL K3 u3 k _ rfl F.out (.slice (some ⟨wr.heap.size,0,none⟩) 1 1) 1 (wz m).vs rfl a0U.out H1C.out O0 hba ?_;intro v' z O2 gr2 at2;have NS:=Q0 O2;have H:=Q0 gr2;have HA2:=Q0 at2;clear O2 gr2 at2)
   have hal:Below wr.heap.size wr (wr.alloc (.cells #[.string m.nm,.string m.tl,.string m.ar,.slice none 0 0,.bool false,.int .i64 0,.string ⟨#[]⟩,.string ⟨#[]⟩] 108)):=bA;have HS2:Hid (ay E w (.slice a fs.length cap) v' ((ms.take (k+1)).map wz) z):=by
    show ay _ _ _ _ _ _;rw [HTK.out];exact C.out.snoc a2M.out hal H.out (by rw [hlen];exact NS.out) (fun i _=>oN _ _)
   have lZ:Hid (Ex (fun k=>k=w.heap.size+1) w1 z):=by
    have hsz:=A.out.size;refine ⟨H.out.os.trans A.out.os,H.out.tape.trans A.out.tape,H.out.output.trans A.out.output,Z4 hsz (Z4 hal.size H.out.size),fun q hq U=>?_⟩;refine (H.out.block q J4 (fun e=>?_)).trans ((hal.block q O0).trans (A.out.block q hq U));rcases UW.out with h | h
    · rw [h] at e;exact U (j6 e)
    have:=h q e.symm;omega
   have HV2:Hid (v'.ownBlock=some (w.heap.size+1)\/∀ k,v'.ownBlock=some k->w1.heap.size<=k):=by
    have hsz:=A.out.size;rcases HA2.out with h | h
    · rcases UW.out with h' | h'
      · exact .inl (h.trans h')
      exact .inr (fun q e=>h' q (h.symm.trans e))
    refine .inr fun q e=>?_;rw [h] at e;have e:=j6 e;simp at e;omega
   clear F a0U;go_roundw
   case rel=>exact ⟨k+1,O0,by go_num,HS2.out,lZ.out,HV2.out⟩
   case measure=>simp [intOf];omega
 obtain rfl:k=ms.length:=O0;have HA0:Hid (ay E w (.slice a fs.length cap) u3 (ms.map wz) wr):=by have:=C.out;rw [Fv] at this;exact this
 obtain ⟨ra,rc,a0V,_⟩:=Zp HA0.out.row;have hra:u3=.slice ra ms.length rc:=by rw [a0V];simp
 clear a0V;subst hra;clear C A UW WX a0T H1 hlen
 go_wp2_with fail
 go_loopg [6] (Lx (ms.map wz)+1) (fun n v6 wr=>∃ (l:Bool) (ws:List W8),v6=.bool l/\Hid (ay E w (.slice a fs.length cap) (.slice ra ms.length rc) ws wr)/\Hid (ws.map (·.m)=ms.map toM)/\Hid (ws.length=ms.length)/\Hid (l=true->Lx ws+1<=n)/\Hid (l=false->∀ i,i<ws.length->VJ fs ms ws (ws.getD i J9)))
 case atStart=>exact ⟨true,ms.map wz,rfl,HA0.out,Q0 (by simp [Function.comp_def,wz]),Q0 X0,fun _=>Q6 _,(fun h=>by cases h)⟩
 obtain ⟨l,ws,rfl,C,HM,HN,HP1,HP2⟩:=hrel;cases l
 · have HR:=Q0 (HP2.out rfl)
   clear HP1 HP2;go_wp2;go_ret;exact ⟨_,ws,rfl,C.out,HM.out,HR.out⟩
 go_wp2_with fail
 go_loopw [6,7] (fun v6 v7 wr=>∃ (i:Nat) (l:Bool) (f:List W8),v6=.bool l/\v7=.int .i64 i/\i<=ms.length/\Hid (ay E w (.slice a fs.length cap) (.slice ra ms.length rc) f wr)/\Hid (f.map (·.m)=ms.map toM)/\Hid (f.length=ms.length)/\Hid (Lx f<=Lx ws)/\Hid (l=true->Lx f<Lx ws)/\Hid (l=false->f.map key=ws.map key/\∀ j,j<i->VJ fs ms ws (f.getD j J9))) (fun _ v7 _=>ms.length - (intOf v7).toNat)
 case atStart=>exact ⟨0,false,ws,rfl,rfl,I5 _,C.out,HM.out,HN.out,Q6 _,(fun h=>by cases h),fun _=>⟨rfl,fun j h=>absurd h (F5 _)⟩⟩
 obtain ⟨i,l,f,rfl,rfl,hi,t,HM1,s,SV,HQ1,aZ⟩:=hrel;by_cases r:i<ms.length;rotate_left
 · obtain rfl:i=ms.length:=O0
   have hgk:=HP1.out (by trivial);go_wp2;cases l
   · go_roundg 0
     case measure=>omega
     case rel=>exact ⟨false,f,rfl,t.out,HM1.out,s.out,(fun h=>by cases h),fun _ j L=>by
      obtain ⟨P,q2⟩:=aZ.out rfl;intro ho;obtain ⟨p1,p2,p3⟩:=q2 j (by rw [<- s.out];exact L) ho;exact ⟨p1,p2,by rw [fC P];exact p3⟩⟩
   have:=HQ1.out rfl
   go_roundg (Lx f+1)
   case measure=>omega
   case rel=>exact ⟨true,f,rfl,t.out,HM1.out,s.out,fun _=>Q6 _,(fun h=>by cases h)⟩
 have o:i<f.length:=by rw [s.out];exact r
 have F:=t.out.row;rcases F.2 with ⟨_,h0⟩ | ⟨g,cap',cur,hv,hgb,D,_⟩
 · omega
 obtain rfl:ra=some ⟨g,0,none⟩:=by injection hv
 obtain ⟨ra',rc',yU,Z⟩:=Zp F;obtain rfl:some ⟨g,0,none⟩=ra':=by injection yU
 have Z:=Q0 Z;have hx:=Q0 (t.out.ok i o);have KU:=Q0 (t.out.lv i o);have HXN:=Q0 (t.out.nb i o);have HGT:Hid (∀ y,(f.set i y).getD i J9=y):=fun y=>by rw [Dq o];simp
 have KT:Hid (∀ u,Below wr.heap.size wr u->∀ j v,(f.getD i J9).vs[j]?=some v->u.cell? ⟨g,i*8+j,none⟩=some v):=fun u hb j v e=>by
  rcases Z.out with h0 | ⟨b,off,hab,hbl,hc⟩
  · rw [h0] at o;exact absurd o (F5 _)
  injection hab with hab;injection hab with h1 h2;subst h1 h2;have:=hc i o j v e;rw [R7] at this;exact (hb.cell (p:=⟨g,i*8+j,none⟩) hbl).trans this
 have HGJ:Hid (∀ y j,i≠j->(f.set i y).getD j J9=f.getD j J9):=fun y j h=>by rw [Dq o,R3 h]
 have HPS:Hid (∀ y,Lx (f.set i y)+pw (f.getD i J9)=Lx f+pw y):=fun y=>RH f i y o;have HKS:Hid (∀ y,key y=key (f.getD i J9)->(f.set i y).map key=f.map key):=fun y h=>tJ h;have KX:Hid (∀ y,y.m=(f.getD i J9).m->(f.set i y).map (·.m)=f.map (·.m)):=fun y h=>by
  apply vk;intro j;rw [Kb,Kb,Tm];by_cases L:i=j
  · subst L
    rw [Y3 rfl,Y3 o,F8 o];rw [Ao,F8 o] at h;simpa using h
  rw [R3 L]
 have hgw:=Q4 D;have C1:=Q0 t.out.t1;obtain ⟨xa,xc,hxl,_,hxb⟩:=KU.out;have HXB:=Q0 hxb;generalize f.getD i J9=x at*;clear F yU hv D hgb hxb o;have hx3:=KT.out wr (F4 _ _) 3 _ rfl
 go_upto_region 13 with fail
 refine UQ E a cap fs ms HE.out w.heap.size g rc i f wr _ _ _ _ _ _ _ _ _ _ _ _ _ _ _ _ _ _ _ _ _ _ _ _ _ _ _ _ _ _ _ _ _ _ _ _ _ _ _ _ _ _ _ _ _ _ _ _ _ _ _ _ _ _ _ _ _ _ _ _ _ _ _ _ _ ?hq1 (Q0 (G.T.U0 HAT.out t.out.bl)) HT.out HP.out (by rw [s.out];omega) Z (Q0 t.out.ok) ms.length (Q0 s.out.symm) r x hx KU HXB C1 (Q0 (KT.out wr (F4 _ _))) hgw ?kk1
 case hq1=>exact fun _ _ d _ _ h=>by cases d <;> exact h
 intro t33 t34 t35 t36 t37 t38 t39 O y z aV N R hlv hnw X;rw [Gx (show y.vs.length=z8.length from rfl)] at N;have HC8:=Q0 N;have HST:=Q0 R;have HLY:=Q0 hlv;have QZ:=Q0 hnw;have hyl:=(ze xS.out (xS.out.ms _ R.ok.mem) R.ok.his).1;obtain ⟨ya,yc,hyv,_⟩:=hlv;have m3:z.cell? ⟨O,3,none⟩=some (.slice ya y.ls.length yc):=hyv▸N.cell 3;have m4:z.cell? ⟨O,4,none⟩=some (.bool y.ov):=N.cell 4;have n3:=hxl▸KT.out z X 3 _ rfl;have n4:=KT.out z X 4 _ rfl;have HYV:=Q0 hyv;clear N R hnw hyv
 go_upto_region 14 with fail
 refine ZP g O i ms.length rc l y.ov x.ov ya xa y.ls.length x.ls.length yc xc z _ _ _ _ _ _ _ _ _ _ _ _ _ _ _ _ _ _ _ _ _ _ _ _ _ _ _ _ _ _ _ _ _ _ _ _ _ _ _ _ _ _ _ _ _ _ _ _ _ _ _ _ _ _ _ _ _ _ _ _ _ _ _ _ ?hq2 r m4 m3 n4 n3 ?kk2
 case hq2=>exact fun _ _ d _ _ h=>by cases d <;> exact h
 intro t40 t41 t42 t43 t44 t45 t46 t47 t48 t49 t50 t51 t52 t53 t54 t55 t56 t57 t58 t59 t60 t61 t62 w3 W;have a2N:=bT X W;have HA3:=Q0 (t.out.below a2N);have a2O:=Q0 (HC8.out.below W HC8.out.lt);have a2P:=Q0 (HLY.out.below W);have a4y:g≠O:=O0;obtain ⟨xs,HCG,hxs⟩:∃ xs,Hid (Cl w3 g 108 xs)/\i*8+8<=xs.length:=by
  rcases HA3.out.row.2 with ⟨_,h0⟩ | ⟨g',cap',cur,hv,hgb,D,h1,h2,h3,h4⟩
  · rw [s.out] at h0;omega
  injection hv with hv _ _;injection hv with hv;injection hv with hv _ _;subst hv;refine ⟨cur.toList,by show Cl _ _ _ _;unfold Cl;simpa using D,?_⟩;rw [s.out] at h1;simp;omega
 have H1C:Hid (∀ v∈y.vs,v.oneCell'=true):=Q0 (Kk y (by rw [HYV.out];rfl));clear m3 m4 n3 n4 X W HC8;obtain ⟨ag',HAG⟩:∃ b,Hid ((l || (y.ov !=x.ov) || (y.ls.length !=x.ls.length))=b):=⟨_,rfl⟩;rw [HAG.out]
 go_wp2_with (first | (refine Gu rfl _ rfl O rfl y.vs a2O.out rfl ?_) | (refine Zi rfl 108 _ _ rfl (B:=g) (j:=i*8) rfl (vs:=y.vs) rfl HCG.out (by rw [Qf];omega) H1C.out U2 ?_;intro w4 hc4 ho4;have WV:=Q0 hc4;have lT:=Q0 ho4;clear hc4 ho4))
 have a2Q:=Q0 (HA3.out.set s.out.symm r HCG.out WV.out lT.out HST.out.ok a2P.out (fun k e=>by
  rcases QZ.out k e with h | h
  · have:=HXN.out k h
    intro c;subst c;exact this rfl
  omega))
 have hpw:=gI HST.out hyl;have a2R:=HPS.out y;have HZ1:Hid (ag'=true->Lx (f.set i y)<Lx ws):=fun c=>by
  have h0:=SV.out;cases l
  · have:=hpw.2.1 (by have:=HAG.out;rw [c] at this;simpa using this)
    omega
  have:=HQ1.out rfl;omega
 have HZ2:Hid (ag'=false->(f.set i y).map key=ws.map key/\∀ j,j<i+1->VJ fs ms ws ((f.set i y).getD j J9)):=fun c=>by
  have hag:=HAG.out;rw [c] at hag;cases l;rotate_left
  · simp at hag
  have V:=hpw.2.2 (by simpa using hag);obtain ⟨P,q2⟩:=aZ.out rfl;refine ⟨(HKS.out y V).trans P,fun j L=>?_⟩;by_cases hji:i=j
  · subst hji
    rw [HGT.out];intro ho;obtain ⟨p1,p2,p3,p4⟩:=HST.out.blk ho;exact ⟨p1,p2,by rw [<- fC P];exact p3,p4⟩
  rw [HGJ.out y j hji];exact q2 j O0
 have HZ0:Hid (Lx (f.set i y)<=Lx ws):=by have:=SV.out;show _<=_;omega
 have HZL:Hid ((f.set i y).length=ms.length):=by show _=_;rw [Ed];exact s.out
 have HZM:=Q0 ((KX.out y HST.out.m).trans HM1.out);clear hpw a2R;go_roundw
 case rel=>exact ⟨i+1,ag',f.set i y,rfl,by go_num,O0,a2Q.out,HZM.out,HZL.out,HZ0.out,HZ1.out,HZ2.out⟩
 case measure=>simp [intOf];omega
end Go.Proofs.YtdjaajjndfbpmaaGreatDoor
