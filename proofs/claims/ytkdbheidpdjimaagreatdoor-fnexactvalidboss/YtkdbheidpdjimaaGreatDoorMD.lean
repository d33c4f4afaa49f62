import Derived.Test.YtkdbheidpdjimaaGreatDoorvG
import Derived.Test.YtkdbheidpdjimaaGreatDoorM6
import Derived.Test.YtkdbheidpdjimaaGreatDoortW4
set_option linter.unusedVariables false
set_option maxHeartbeats 8000000
set_option maxRecDepth 100000
namespace Go.Proofs.YtkdbheidpdjimaaGreatDoor
open Proofs.Tryz Go.RowKit Go.Maps
variable {c:Int} {m:M3} {B H N bP bR bT base n:Nat} {W W' w':World} {ls:List L4} {ts:LB} {rs:List R3} {t:BY} {s:St} {v:Value} {vs:List Value}
open Classical in
noncomputable def l_ (W:Int) (ts:LB) (rs:List R3) (m:M3) (ls:List L4) (c:Int) (t:BY):Int:=
 if ¬ lg m ls c t then 2 else if (X6 W (Xh ls c t) (ts,true)).2=false then 3 else
 if 300<(X6 W (Xh ls c t) (ts,true)).1.length\/150<(Vd rs (Bg W m ls c t)).length then 4 else 0
theorem TV {s:BY} {v:Bool} (hv:vr c s.data.toList=v) (w:World) (a:s.size<=1048700):Calls prog 132 #[.agg #[.int .i64 c,.string s]] w fun e w'=>e=.returned (.bool v)/\Bw w w':=hv▸JM c s w a
theorem tH (h:Ff m=true):(L9 m).size<=321:=by
 unfold Ff o6 at h;simp only [Fa,Fe] at h;have e:m.tl.data.toList.length=m.tl.size:=Xt;have h1:=h.1.2.1.2;have h2:=h.2;unfold L9;rw [bJ,bJ];have e1:(⟨#[32]⟩:BY).size=1:=rfl;omega
theorem KR {a:Int} (h:0<=a/\a<=1000000):IntKind.i64.wrap a=a:=by
 exact IntWalk.i64_in a O0
theorem TP (W:Int) (t:BY) (ts:LB):(Tj W t ts).length=ts.length+1:=by
 have h:=P5 List.length (Vy W t ts);rw [Lc,(Dc _ _).length_eq] at h;simpa using h
theorem JO (W:Int) (t:BY) (ts:LB):(W_ W t ts).1.length<=ts.length+1:=by
 unfold W_;split
 · exact Yn _
 · rw [TP];exact Y9 _
theorem Gz (W:Int):∀ (a ts:LB) (b:Bool),(X6 W a (ts,b)).1.length<=ts.length+a.length
 | [],ts,b=>Y9 _
 | t::r,ts,b=>by
  have h1:=Gz W r (W_ W t ts).1 (b&&(W_ W t ts).2);have h2:=JO W t ts;have e:X6 W (t::r) (ts,b)=X6 W r ((W_ W t ts).1,b&&(W_ W t ts).2):=rfl;rw [e,A_];omega
theorem AX {E:World} {d:OA} {m:Nat} {W:Int} (h:E.ownsRow base 178 3 (.slice d n m) ls.length (Xy W ls)):Z_ E d (ls.map (ah W))/\(ls.map (ah W)=[]\/∃ b off,d=some ⟨b,off,none⟩/\∃ cur fr,E.heap[b]?=some (.cells cur 178 fr)):=by
 have c:=h;have i:∀ (l:List L4) (k:Nat),k<l.length->(Xy W l)[k*3]?=some (.bool (l.getD k O_).has)/\(Xy W l)[k*3+1]?=some (vS (l.getD k O_).nm)/\(Xy W l)[k*3+2]?=some (vS (E5 (Wi (l.getD k O_)) W)):=by
  intro l
  induction l with
  | nil=>intro k a;exact absurd a (o9 _)
  | cons x r ih=>
   intro k a
   cases k with
   | zero=>exact ⟨rfl,rfl,rfl⟩
   | succ k=>
    have:=ih k (by simpa using a);have e1:(k+1)*3=k*3+1+1+1:=O0;rw [e1];exact this
 rcases h.2 with ⟨hv,h0⟩ | ⟨g,cap,cur,hv,hg,f,_⟩
 · have e:=Ya.1 h0;subst e;exact ⟨.inl rfl,.inl rfl⟩
 · simp only [Gy] at hv;obtain ⟨rfl,rfl,rfl⟩:=hv;refine ⟨.inr ⟨g,0,rfl,(D_.1 f).1,fun k a=>?_⟩,.inr ⟨g,0,rfl,cur,(0,0),f⟩⟩;rw [Lc] at a;have e:(ls.map (ah W)).getD k Yg=ah W (ls.getD k O_):=by simp only [List.getD,Zr,y9 a,Fv,Ac]
   obtain ⟨e0,e1,j⟩:=i ls k a;rw [e];refine ⟨?_,?_,?_⟩
   · rw [E8,c.cellAt (k*3) O0];exact e0
   · rw [E8,c.cellAt (k*3+1) O0];exact e1
   · rw [E8,c.cellAt (k*3+2) O0];exact j
theorem Fr.vals {W:Int} {l f:List (ByteArray×Value)} (h:Fr W l f ts):∀ p∈f,∃ q,p.2=QW q:=fun p a=>by
 obtain ⟨y,_,rfl⟩:=Jl.1 (h.perm.mem_iff.2 (List.mem_append_left l a));exact ⟨(y,hC y,hT y),rfl⟩
theorem KG {x:R3} (h:rs.length<=150):150<(Vd rs x).length↔x∉rs/\rs.length=150:=by
 unfold Vd;split
 · rename_i hx;constructor
   · intro h1;omega
   · intro h1;exact absurd hx h1.1
 · rename_i hx;simp only [N9,Ej];constructor
   · intro h1;exact ⟨hx,O0⟩
   · intro h1;omega
theorem TK {x:L4} (h:x.tx.size<=1048576):(Wi x).size<=1048700:=by
 unfold Wi;split
 · split <;> decide
 · have:=Lp x.cd x.tx;unfold QA at this;omega
def iY (B H bT bR bP:Nat) (W:Int) (ts:LB) (rs:List R3) (m:M3) (ls:List L4) (c:Int) (t:BY) (w':World) (e:Ending):Prop:=
 e=.returned (.int .i64 (l_ W ts rs m ls c t))/\(l_ W ts rs m ls c t=0->∃ rv',Sh B H bT bR bP W ((X6 W (Xh ls c t) (ts,true)).1.map (gT W)) (Vd rs (Bg W m ls c t)) rv' w')
theorem VB {W:Int} {n:Int} (h:l_ W ts rs m ls c t=n) (a:n≠0):iY B H bT bR bP W ts rs m ls c t w' (.returned (.int .i64 n)):=⟨by rw [h],fun e=>absurd (h.symm.trans e) a⟩
theorem LZ {W:Int} {a:List Value} (h:l_ W ts rs m ls c t=0) (b:Sh B H bT bR bP W ((X6 W (Xh ls c t) (ts,true)).1.map (gT W)) (Vd rs (Bg W m ls c t)) a w'):iY B H bT bR bP W ts rs m ls c t w' (.returned (.int .i64 0)):=⟨by rw [h],fun _=>⟨a,b⟩⟩
theorem a1J (B H bT bR bP:Nat) (W:Int) (ts:LB) (rs:List R3) (rv:List Value) (m:M3) (ls:List L4) (c:Int) (t:BY) (a:OA) (Q:Nat) (w:World) (hSh:Sh B H bT bR bP W (ts.map (gT W)) rs rv w) (hW:1<=W/\W<=8) (hA:Zh W ts) (htl:ts.length<=300) (hrl:rs.length<=150) (hgs:∀ i,(rs.getD i g_).gs.length<=1048576) (hm:m.le 1048576) (hl:ls.length<=1048576) (hs:∀ i,(ls.getD i O_).le 1048576) (ht:t.size<=1048576) (hat:I9 w a ls):
 Calls prog 118 #[.pointer (some ⟨H,0,none⟩),.agg #[.string m.nm,.string m.tl,.string m.ar],.slice a ls.length Q,.agg #[.int .i64 c,.string t]] w fun e w'=>iY B H bT bR bP W ts rs m ls c t w' e/\Below B w w'/\KF w w':=by
 have v:B<=w.heap.size:=by obtain ⟨pl,h1,_⟩:=hSh;have:=h1.hH;have:=h1.lt;omega
 have BW0:Bw w ((w.alloc (.cells #[vS m.nm,vS m.tl,vS m.ar] 101)).alloc (.cells #[vI c,vS t] 103)):=o7.alloc I4 _;have s0:((w.alloc (.cells #[vS m.nm,vS m.tl,vS m.ar] 101)).alloc (.cells #[vI c,vS t] 103)).heap.size=w.heap.size+2:=I4;have Z:Hid (X4 ((w.alloc (.cells #[vS m.nm,vS m.tl,vS m.ar] 101)).alloc (.cells #[vI c,vS t] 103)) w.heap.size [vS m.nm,vS m.tl,vS m.ar]):=U0 ((I5 w [vS m.nm,vS m.tl,vS m.ar] 101).below (N:=w.heap.size+1) ((Z4 _ _).alloc I4 _) O0);have BC0:Hid (X4 ((w.alloc (.cells #[vS m.nm,vS m.tl,vS m.ar] 101)).alloc (.cells #[vI c,vS t] 103)) (w.heap.size+1) [vI c,vS t]):=by have h:=I5 (w.alloc (.cells #[vS m.nm,vS m.tl,vS m.ar] 101)) [vI c,vS t] 103;rw [show (w.alloc (.cells #[vS m.nm,vS m.tl,vS m.ar] 101)).heap.size=w.heap.size+1 by simp] at h;exact h
 have k0:=Z.out 0 _ rfl;have k1:=Z.out 1 _ rfl;have k2:=Z.out 2 _ rfl;have HSH:=U0 hSh;have hkR:m.tl.size<=1048576/\m.ar.size<=1048576:=⟨hm.2.1,hm.2.2⟩;have HM7:Hid (m.le 1048700):=⟨Q7 hm.1 O0,Q7 hm.2.1 O0,Q7 hm.2.2 O0⟩;clear hSh;go_enter func118,ntmps118
 go_wp2_with fail
 generalize ((w.alloc (.cells #[vS m.nm,vS m.tl,vS m.ar] 101)).alloc (.cells #[vI c,vS t] 103))=U1 at*;cases hn:Ff m
 · have d:Hid (l_ W ts rs m ls c t=2):=by show l_ _ _ _ _ _ _ _=2;unfold l_;rw [if_pos (fun h=>by have h1:=h.1;rw [hn] at h1;cases h1)]
   refine (CJ hn _ HM7.out).mono ?_;rintro e w1 ⟨rfl,s⟩;go_wp2;go_ret;exact ⟨VB d.out O6,(BW0.trans (s.mono O0)).mono v,Ed (BW0.trans (s.mono O0)) x9⟩
 · refine (CJ hn _ HM7.out).mono ?_;rintro e w1 ⟨rfl,s⟩;have s1:=s.size;have BK1:=U0 (Z.out.below s O0);have BC1:=U0 (BC0.out.below s O0);have BW1:=BW0.trans (s.mono O0);clear s k0 k1 k2
   go_wp2_with fail
   refine (c131 a Q ls _ hl hs (N7 hat BW1)).mono ?_;rintro e w2 ⟨⟨r,rfl,hr⟩,K⟩;have s2:=K.size;have BK2:=U0 (BK1.out.below K O0);have BC2:=U0 (BC1.out.below K O0);have Y:=BW1.trans (K.mono O0);have j0:=BC2.out 0 _ rfl;have j1:=BC2.out 1 _ rfl;clear K;cases r
   · have d:Hid (l_ W ts rs m ls c t=2):=by show l_ _ _ _ _ _ _ _=2;unfold l_;rw [if_pos (fun h=>absurd (hr.2 h.2.1) O6)]
     clear hr;go_wp2;go_ret;exact ⟨VB d.out O6,Y.mono v,Ed Y x9⟩
   · have hlo:=hr.1 rfl;clear hr
     go_wp2_with fail
     cases hv:vr c t.data.toList
     · have d:Hid (l_ W ts rs m ls c t=2):=by show l_ _ _ _ _ _ _ _=2;unfold l_;rw [if_pos (fun h=>by have h1:=h.2.2;rw [hv] at h1;cases h1)]
       refine (TV hv _ O0).mono ?_;rintro e w3 ⟨rfl,z⟩;have E:=Y.trans (z.mono O0);go_wp2;go_ret;exact ⟨VB d.out O6,E.mono v,Ed E x9⟩
     · refine (TV hv _ O0).mono ?_;rintro e w3 ⟨rfl,z⟩;have s3:=z.size;have BK3:=U0 (BK2.out.below z O0);have BC3:=U0 (BC2.out.below z O0);have E:=Y.trans (z.mono O0);have HRK:Hid (lg m ls c t):=⟨hn,hlo,hv⟩;have i0:=BC3.out 0 _ rfl;have i1:=BC3.out 1 _ rfl;have HL3:=U0 (N7 hat E);have HS3:=U0 (HSH.out.below E);have h63:=a0Y B H bT bR bP W ts rs rv ls c t a Q w3 HS3.out hW hA hlo hv hl HL3.out;clear z j0 j1
       go_wp2_with fail
       refine h63.mono ?_;rintro e L ⟨hfr,C⟩;clear h63;have s4:=C.size;have BK4:=U0 (BK3.out.below C O0);have BC4:=U0 (BC3.out.below C O0);have BW4:=E.trans (C.mono O0);rcases hfr with ⟨bF,f,O,rfl,hbF,hmF,hFr,hpu⟩ | ⟨rfl,hno⟩
       · have U:=U0 hFr;have R:=U0 hpu;have HMF:=U0 hmF;have HS4:=U0 (HS3.out.below C);have HL4:=U0 (N7 HL3.out C);have q0:=BC4.out 0 _ rfl;have q1:=BC4.out 1 _ rfl;have p0:=BK4.out 0 _ rfl;have p1:=BK4.out 1 _ rfl;have p2:=BK4.out 2 _ rfl;have hfl:f.length+ts.length=O.length:=by have:=hFr.done.2;rw [Lc] at this;omega
         have hH4:H<L.heap.size/\L.cell? (aA H 0)=some (vI W):=by obtain ⟨pl,h1,_⟩:=HS4.out;exact ⟨h1.lt,h1.blk 0 _ rfl⟩
         have h64:=a0Z m ls c t W H a Q L ⟨Nat.le_trans hm.1 O0,Nat.le_trans hm.2.1 O0,Nat.le_trans hm.2.2 O0⟩ O0 (by have:=Lp c t;unfold QA at this;omega) hl (fun i=>⟨Nat.le_trans (hs i).2 O0,TK (hs i).2⟩) HL4.out hH4.1 hH4.2;clear hFr hpu hmF i0 i1
         go_wp2_with fail
         refine h64.mono ?_;rintro e p ⟨⟨v5,rfl,hv5⟩,hb5⟩;obtain ⟨l,g,rfl⟩:=U9 hv5;clear h64;have s5:=hb5.size;have a5c:Bw L (p.alloc (.cells #[vS (L9 m),vL l ls.length g,vS (E5 (Y2 (l7 c t.data.toList)) W)] 113)):=hb5.alloc s5 _;have sX:(p.alloc (.cells #[vS (L9 m),vL l ls.length g,vS (E5 (Y2 (l7 c t.data.toList)) W)] 113)).heap.size=p.heap.size+1:=I4;have BWx:=BW4.trans (a5c.mono O0);have HSx:=U0 (HS4.out.below a5c);have HMx:=U0 (z_ HMF.out a5c HMF.out.lt);have V:Hid (X4 (p.alloc (.cells #[vS (L9 m),vL l ls.length g,vS (E5 (Y2 (l7 c t.data.toList)) W)] 113)) p.heap.size [vS (L9 m),vL l ls.length g,vS (E5 (Y2 (l7 c t.data.toList)) W)]):=U0 (I5 p [vS (L9 m),vL l ls.length g,vS (E5 (Y2 (l7 c t.data.toList)) W)] 113);have hrow:=own_below hv5 ((Z4 _ _).alloc x9 (.cells #[vS (L9 m),vL l ls.length g,vS (E5 (Y2 (l7 c t.data.toList)) W)] 113));have GR:=U0 (AX hrow);obtain ⟨x,hx⟩:∃ x,Bg W m ls c t=x:=⟨_,rfl⟩;have HX:=U0 hx;have hxk:x.key=L9 m:=by rw [<- hx];rfl
         have hxo:x.out=E5 (Y2 (l7 c t.data.toList)) W:=by rw [<- hx];rfl
         have P:x.gs=ls.map (ah W):=by rw [<- hx];rfl
         have hxl:x.gs.length=ls.length:=by rw [P];simp
         have hxs:x.key.size<=321:=by rw [hxk];exact tH hn
         have HRV:Hid (YA B (p.alloc (.cells #[vS (L9 m),vL l ls.length g,vS (E5 (Y2 (l7 c t.data.toList)) W)] 113)) (.agg #[vS x.key,vL l x.gs.length g,vS x.out]) x):=⟨l,g,rfl,by rw [P];exact GR.out.1,by
          rw [P];rcases GR.out.2 with h | ⟨b,off,h1,h2⟩
          · exact .inl h
          · exact .inr ⟨b,off,h1,.inr h2⟩⟩
         have h65:=a1H B H bT bR bP W _ rs rv x l g (p.alloc (.cells #[vS (L9 m),vL l ls.length g,vS (E5 (Y2 (l7 c t.data.toList)) W)] 113)) HSx.out (by rw [P];exact GR.out.1) O0 O0 O0 hgs;rw [hxk,hxl,hxo] at h65;have z0:=V.out 0 _ rfl;have z1:=V.out 1 _ rfl;have z2:=V.out 2 _ rfl;clear hx
         go_wp2_with fail
         refine h65.mono ?_;rintro e w6 ⟨⟨bt,rfl,J⟩,A⟩;clear h65 z0 z1 z2;generalize (p.alloc (.cells #[vS (L9 m),vL l ls.length g,vS (E5 (Y2 (l7 c t.data.toList)) W)] 113))=x5 at*;have s6:=A.size;have y:=BWx.trans (A.mono O0);have HF6:=U0 (z_ HMx.out A HMx.out.lt);have X:=U0 (V.out.below A O0);have RV6:=U0 (HRV.out.kept (Tf A) (fun _ e=>by cases e));obtain ⟨pl,u,hR6⟩:=HSx.out.below A;have q:=U0 u;have a5t:=U0 hR6;have HT6:=U0 u.tx;have HR6:=U0 u.rc;have f1:=u.blk 1 _ rfl;have f2:=u.blk 2 _ rfl;have o0:=X.out 0 _ rfl;have o1:=X.out 1 _ rfl;have o2:=X.out 2 _ rfl;have a6f:bT<w.heap.size:=by obtain ⟨pl',h1,_⟩:=HSH.out;exact h1.tx.lt
         have a5d:=U0 hR6.len;have a3N:rv.length<=150:=by rw [a5d.out];exact hrl
         have HDN:=U0 U.out.done.1;have hfn:f.length<=16:=by
          have h1:=Gz W (Xh ls c t) ts true;rw [R.out] at h1;have h2:(Xh ls c t).length=(v_ ls).length+1:=by simp [Xh]
          have h3:=Zy ls;have h4:=hlo.1;simp only at h1;omega
         have D:=a0Q bT bF _ _ _ f w6 HT6.out HF6.out U.out.vals O0 (by rw [Eb,List.length_map];unfold maxLen;omega);have S:Hid (((300<O.length\/(x∉rs/\rs.length=150))->l_ W ts rs m ls c t=4)/\(¬ (300<O.length\/(x∉rs/\rs.length=150))->l_ W ts rs m ls c t=0)):=by
          show _/\_;have e:l_ W ts rs m ls c t=if 300<O.length\/150<(Vd rs x).length then 4 else 0:=by
           unfold l_;rw [A8 (fun h=>h HRK.out),R.out,A8 I4,HX.out]
          rw [e];exact ⟨fun h=>G8 (h.imp id (KG hrl).2),fun h=>A8 (fun k=>h (k.imp id (KG hrl).1))⟩
         have hwr:IntKind.i64.wrap ((ts.length:Int)+(f.length:Int))=(ts.length:Int)+(f.length:Int):=KR O0;have hlT:=u.tx.len underlying184 3;rw [Eb,Lc] at hlT;have hlF:=HF6.out.len underlying184 3;rw [Eb] at hlF;have hlR:=u.rc.len underlying185 3;rw [Ll] at hlR;clear u hR6;by_cases a2v:300<ts.length+f.length
         · have d:Hid (l_ W ts rs m ls c t=4):=by show l_ _ _ _ _ _ _ _=4;exact S.out.1 (.inl O0)
           have hi3:(300:Int)<(ts.length:Int)+(f.length:Int):=O0;clear D
           go_wp2_with fail
           go_ret;exact ⟨VB d.out O6,y.mono v,Ed y x9⟩
         · have hi3:¬ (300:Int)<(ts.length:Int)+(f.length:Int):=O0;cases bt
           · have HNX:Hid (x∉rs):=fun h=>absurd (J.2 h) O6;by_cases a3g:rv.length=150
             · have d:Hid (l_ W ts rs m ls c t=4):=by show l_ _ _ _ _ _ _ _=4;exact S.out.1 (.inr ⟨HNX.out,by rw [<- a5d.out];exact a3g⟩)
               clear D J
               go_wp2_with fail
               go_ret;exact ⟨VB d.out O6,y.mono v,Ed y x9⟩
             · have d:Hid (l_ W ts rs m ls c t=0):=by show l_ _ _ _ _ _ _ _=0;exact S.out.2 (fun h=>h.elim (fun h=>O0) (fun h=>a3g (a5d.out.trans h.2)))
               have hi5:((rv.length:Int)==150)=false:=by rw [n_];omega
               clear J
               go_wp2_with fail
               refine D.mono ?_;rintro e F ⟨rfl,n,o⟩;rw [HDN.out] at n
               replace n:=Nh n
               rw [Eb] at n;have C7:=U0 (q.out.upT o n U.out.asc);have R7:=U0 (a5t.out.XW o q.out);have B7:=a_ o (fun j e=>by cases e;exact q.out.hT) O0;have BB7:=(y.mono v).trans B7;have KK7:Hid (KF w F):=by obtain ⟨es,ck,I⟩:=Ph q.out.tx;exact (Ed y x9).trans (jy o I)
               have neT:some p.heap.size≠some bT:=fun e=>by have:=Q9 e;omega
               have E7:=U0 (D9 X.out o O0 neT);have u0:=E7.out 0 _ rfl;have u1:=E7.out 1 _ rfl;have u2:=E7.out 2 _ rfl;have RV7:=RV6.out.kept o (by obtain ⟨es,ck,I⟩:=Ph q.out.tx;exact Ot q.out.hT I);have h59:=AZ B H bT bR bP W _ rs rv x l g F ⟨pl,C7.out,R7.out⟩ RV7 O0 O0;rw [hxk,hxl,hxo] at h59;clear D n o
               go_wp2_with fail
               refine h59.mono ?_;rintro e w8 ⟨rfl,hS8,hB8,hK8⟩;have HK8:=U0 hK8;clear hK8;have HS8:Hid (Sh B H bT bR bP W ((X6 W (Xh ls c t) (ts,true)).1.map (gT W)) (Vd rs (Bg W m ls c t)) (rv++[.agg #[vS (L9 m),vL l ls.length g,vS (E5 (Y2 (l7 c t.data.toList)) W)]]) w8):=by
                show Sh _ _ _ _ _ _ _ _ _ _;rw [R.out,HX.out,Vd,A8 HNX.out];exact hS8
               clear h59 hS8;go_wp2;go_ret;exact ⟨LZ d.out HS8.out,BB7.trans hB8,KK7.out.trans HK8.out⟩
           · have HIX:Hid (x∈rs):=by show x∈rs;simpa using J
             have d:Hid (l_ W ts rs m ls c t=0):=by show l_ _ _ _ _ _ _ _=0;exact S.out.2 (fun h=>h.elim (fun h=>O0) (fun h=>h.1 HIX.out))
             clear J
             go_wp2_with fail
             refine D.mono ?_;rintro e F ⟨rfl,n,o⟩;rw [HDN.out] at n
             replace n:=Nh n
             rw [Eb] at n;have C7:=U0 (q.out.upT o n U.out.asc);have R7:=U0 (a5t.out.XW o q.out);have B7:=a_ o (fun j e=>by cases e;exact q.out.hT) O0;have BB7:=(y.mono v).trans B7;have KK7:Hid (KF w F):=by obtain ⟨es,ck,I⟩:=Ph q.out.tx;exact (Ed y x9).trans (jy o I)
             have HS8:Hid (Sh B H bT bR bP W ((X6 W (Xh ls c t) (ts,true)).1.map (gT W)) (Vd rs (Bg W m ls c t)) rv F):=by
              show Sh _ _ _ _ _ _ _ _ _ _;rw [R.out,HX.out,Vd,G8 HIX.out];exact ⟨pl,C7.out,R7.out⟩
             clear D n o;go_wp2;go_ret;exact ⟨LZ d.out HS8.out,BB7,KK7.out⟩
       · have d:Hid (l_ W ts rs m ls c t=3):=by show l_ _ _ _ _ _ _ _=3;unfold l_;rw [if_neg (fun h=>h HRK.out),if_pos hno]
         go_wp2;go_ret;exact ⟨VB d.out O6,BW4.mono v,Ed BW4 x9⟩
theorem Uz (h:dh s):(l_ s.wd s.ts s.rs m ls c t=0->K_ s m ls c t=(⟨s.wd,(X6 s.wd (Xh ls c t) (s.ts,true)).1,Vd s.rs (Bg s.wd m ls c t)⟩,0))/\(l_ s.wd s.ts s.rs m ls c t≠0->K_ s m ls c t=(st0,l_ s.wd s.ts s.rs m ls c t)):=by
 by_cases h1:lg m ls c t
 · by_cases h2:(X6 s.wd (Xh ls c t) (s.ts,true)).2=false
   · simp [K_,l_,h,h1,h2]
   · by_cases a:300<(X6 s.wd (Xh ls c t) (s.ts,true)).1.length\/150<(Vd s.rs (Bg s.wd m ls c t)).length
     · simp [K_,l_,h,h1,h2,a]
     · simp [K_,l_,h,h1,h2,a]
 · simp [K_,l_,h,h1]
theorem YN (h:¬ dh s):K_ s m ls c t=(st0,1):=by
 unfold K_;rw [G8 h]
def Nu (s:St) (m:M3) (ls:List L4) (c:Int) (t:BY) (base:Nat) (w':World) (e:Ending):Prop:=
 ∃ ta tc ra rc,e=.returned (.tuple #[.agg #[.int .i64 (K_ s m ls c t).1.wd,.slice ta (K_ s m ls c t).1.ts.length tc,.slice ra (K_ s m ls c t).1.rs.length rc],.int .i64 (K_ s m ls c t).2])/\Jd w' base (K_ s m ls c t).1.ts (K_ s m ls c t).1.rs (.slice ta (K_ s m ls c t).1.ts.length tc) (.slice ra (K_ s m ls c t).1.rs.length rc)
theorem Gp (W:World) (base:Nat):Jd W base [] [] (.slice none 0 0) (.slice none 0 0):=⟨ng _ _ _ _,[],rfl,ng _ _ _ _,fun i h=>absurd h (o9 _),fun i j h=>absurd h (o9 _)⟩
theorem Ob {n:Int} (h:K_ s m ls c t=(st0,n)):Nu s m ls c t base w' (.returned (.tuple #[.agg #[.int .i64 0,.slice none 0 0,.slice none 0 0],.int .i64 n])):=by
 unfold Nu;rw [h];exact ⟨none,0,none,0,rfl,Gp _ _⟩
theorem MC {d:Int} {a:LB} {b:List R3} {ta ra:OA} {tc rc:Nat} (h:K_ s m ls c t=(⟨d,a,b⟩,0)) (e:Jd w' base a b (.slice ta a.length tc) (.slice ra b.length rc)):Nu s m ls c t base w' (.returned (.tuple #[.agg #[.int .i64 d,.slice ta a.length tc,.slice ra b.length rc],.int .i64 0])):=by
 unfold Nu;rw [h];exact ⟨ta,tc,ra,rc,rfl,e⟩
theorem Jd.keep {tv d:Value} (h:Jd W base ts rs tv d) (b:∀ q,base<=q->q<W.heap.size->W'.heap[q]?=W.heap[q]?):Jd W' base ts rs tv d:=by
 obtain ⟨h1,vs,h2⟩:=h;refine ⟨I7 h1 (fun q a=>b q (P6 h1 a) (Ef h1 a)),vs,h2.len,I7 h2.row (fun q a=>b q (P6 h2.row a) (Ef h2.row a)),fun i f=>?_,h2.apart⟩;obtain ⟨g,c3,e,c⟩:=h2.gl i f;exact ⟨g,c3,e,I7 c (fun q a=>b q (P6 c a) (Ef c a))⟩
theorem jd {P:Program} {ops:Array Oper} {o:Oper} {a:Act} {w:World} {K:Act->World->Prop} {Q:Exit->Act->World->Prop} {E:Prop}
 (B:o.guard=none) (s x:Operand) (t:TypeId) (y:o.op=Op.call { callee:=Callee.builtin Builtin.append,args:=#[s,x],argTypes:=#[t,t] })
 (base:Nat) (e:TypeId) (i:TypeInfo) (z:Value) (size bytes:Nat) (h1:P.underlying t=some (.slice e)) (h2:P.info? e=some i) (L:i.zero=some z) (J:i.size=size) (I:i.bytes=bytes) (H:z.cells.size=size) (F:0<size)
 (v:Value) (n:Nat) (xs:List Value) (p:a.eval s=v) (r:w.ownsRow base e size v n xs)
 (d:Addr) (m c:Nat) (b:List Value) (hx:a.eval x=.slice (some d) m c) (A:b.length=m*size) (hc:∀ j u,b[j]?=some u->w.cell? (d.add j)=some u) (N:∀ u∈b,u.oneCell'=true)
 (R:n+m<=maxLen) (O:(n+m)*bytes<=140737488355328) (C:base<=w.heap.size)
 (D:∀ v' w',w'.ownsRow base e size v' (n+m) (xs++b)->w.grownBy w' v.ownBlock->(v≠.slice none 0 0->v'≠.slice none 0 0)->K (a.put o.dst v') w'):
 if Region.wanted o (yielded ops a.tmps)=true then Oper.wp P o a w K Q else E:=by
 have hw:Region.wanted o (yielded ops a.tmps)=true:=by simp [Region.wanted,B]
 rw [G8 hw];obtain ⟨v',w',q,l,g,f,r4⟩:=run_append_own_at (P:=P) w base t o.type e i z size bytes h1 h2 L J I H F v n xs r d m c b A hc N R O C;unfold Oper.wp;simp [execOp,y,resolve,invoke,builtin,p,hx,q,Result.andThen];exact D v' w' l g (fun h k=>h (f.1 k).1)
theorem Xg {e size:Nat} {xs:List Value} (h:W.ownsRow base e size v n xs) (a:v≠.slice none 0 0):∃ g c,v=.slice (some ⟨g,0,none⟩) n c:=by
 rcases h.2 with ⟨hv,_⟩ | ⟨g,b,cur,hv,_⟩
 · exact absurd hv a
 · exact ⟨g,b,hv⟩
theorem eG {V1 T:World} {n:Value} {y:R3} {c:OA} {b:Nat} (ho:Gg V1 N v rs vs) (A:T.ownsRow N 178 3 (.slice c y.gs.length b) y.gs.length (gC y.gs)) (s:T.ownsRow N 113 3 n (rs.length+1) (rC rs vs++[.string y.key,.slice c y.gs.length b,.string y.out]))
 (w:∀ q,Gf V1 q 178->T.heap[q]?=V1.heap[q]?) (p:∀ q,(Value.slice c y.gs.length b).ownBlock=some q->V1.heap.size<=q):Gg T N n (rs++[y]) (vs++[.slice c y.gs.length b]):=by
 have g:∀ i,i<rs.length->(vs++[Value.slice c y.gs.length b]).getD i undef=vs.getD i undef:=fun i a=>by simp only [List.getD,I_ (show i<vs.length by rw [ho.len];exact a)]
 have k:(vs++[Value.slice c y.gs.length b]).getD rs.length undef=(vL c y.gs.length b):=by simp [List.getD,show rs.length=vs.length by rw [ho.len]]
 have u:∀ i,i<rs.length->(rs++[y]).getD i g_=rs.getD i g_:=fun i a=>by simp only [List.getD,I_ a]
 have t:(rs++[y]).getD rs.length g_=y:=by simp [List.getD]
 have o:∀ i,i<rs.length->∀ q,(vs.getD i undef).ownBlock=some q->q<V1.heap.size:=fun i a q d=>by
  obtain ⟨r,c3,e,h⟩:=ho.gl i a;rw [e] at d;exact Ef h d
 refine ⟨by simp [ho.len],?_,fun i a=>?_,fun i j a x z=>?_⟩
 · rw [yK _ _ _ _ ho.len,N9];exact s
 · rw [N9,Ej] at a;rcases o8 i rs.length with l | hge
   · rw [g i l,u i l];obtain ⟨r,c3,e,h⟩:=ho.gl i l;exact ⟨r,c3,e,I7 h (fun q d=>w q (Q8 h d))⟩
   · obtain rfl:i=rs.length:=O0;rw [k,t];exact ⟨c,b,rfl,A⟩
 · rw [N9,Ej] at a x;rcases o8 i rs.length with m | hgi
   · rw [g i m];rcases o8 j rs.length with f | hgj
     · rw [g j f];exact ho.apart i j m f z
     · obtain rfl:j=rs.length:=O0;rw [k]
       cases d:(vs.getD i undef).ownBlock with
       | none=>exact .inl rfl
       | some q=>
        refine .inr fun e=>?_;have:=o i m q d;have:=p q e.symm;omega
   · obtain rfl:i=rs.length:=O0;rw [k];have f:j<rs.length:=O0;rw [g j f]
     cases d:(Value.slice c y.gs.length b).ownBlock with
     | none=>exact .inl rfl
     | some q=>
      refine .inr fun e=>?_;have:=o j f q e.symm;have:=p q d;omega
theorem Gg.keep (h:Gg W base v rs vs) (f:∀ q t,Gf W q t->t=113\/t=178->base<=q->W'.heap[q]?=W.heap[q]?):Gg W' base v rs vs:=
 ⟨h.len,I7 h.row (fun q b=>f q 113 (Q8 h.row b) (.inl rfl) (P6 h.row b)),fun i g=>by
  obtain ⟨a,c,e,d⟩:=h.gl i g;exact ⟨a,c,e,I7 d (fun q b=>f q 178 (Q8 d b) (.inr rfl) (P6 d b))⟩,h.apart⟩
theorem je {q:Nat} {t:TypeId} (h:Gf W q t):q<W.heap.size:=by
 obtain ⟨cur,fr,e⟩:=h;exact (D_.1 e).1
structure LC (V:World) (N A:Nat) (W0:Int) (ts:LB) (g c:Nat) (P:List R3) (a2:OA) (c2:Nat) (vs:List Value) (W:World):Prop where
 bl:X4 W A [.int .i64 W0,.slice (some ⟨g,0,none⟩) ts.length c,.slice a2 P.length c2]
 rc:Gg W N (.slice a2 P.length c2) P vs
 tr:W.ownsRow N 9 1 (.slice (some ⟨g,0,none⟩) ts.length c) ts.length (ts.map Value.string)
 op:Y5 W A
 t1:Gf W A 44
 na:N<=A
 bw:Below N V W
theorem LC.below {V:World} {A:Nat} {W0:Int} {g c:Nat} {P:List R3} {a2:OA} {c2:Nat} (h:LC V N A W0 ts g c P a2 c2 vs W) (a:Bw W W'):LC V N A W0 ts g c P a2 c2 vs W':=
 ⟨h.bl.below a (je h.t1),h.rc.keep (fun q t hT _ _=>a.block q (je hT)),own_below h.tr a,h.op.below a (je h.t1),h.t1.below a (je h.t1),h.na,h.bw.trans (a.mono (by have:=je h.t1;have:=h.na;omega))⟩
